"""Ringbars: all shapes of a ring of bars at once."""

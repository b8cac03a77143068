"""The tests of ringbars."""

"""Arcs of a ring, and how far their ends can be apart [5]."""

from ringbars.checks import are_positive
from ringbars.errors import BadNumber
from ringbars.lots import want_closed
from ringbars.params import want_number, want_two_corners
from ringbars.rings import LEAST_BARS, MOST_BARS, want_ring

MOST_ARM = 20


def arc_bars(many, one, other):
    """The bars of the arc from corner one to corner other, in their order."""
    want_number(many, LEAST_BARS, MOST_BARS, "many")
    want_two_corners(one, other, many)
    return tuple([(one + step) % many for step in range((other - one) % many)])


def arm_range(lengths):
    """The least and the greatest span of the ends of an arm."""
    if not are_positive(lengths) or not 1 <= len(lengths) <= MOST_ARM:
        raise BadNumber("lengths")
    total = sum(lengths)
    return max(0, 2 * max(lengths) - total), total


def arc_range(ring, one, other):
    """The least and the greatest span of the arc from one to other, alone."""
    want_ring(ring, "ring")
    bars = arc_bars(len(ring), one, other)
    return arm_range([ring.lengths[bar] for bar in bars])


def corner_range(ring, one, other):
    """The least and the greatest span of two corners."""
    there = arc_range(ring, one, other)
    back = arc_range(ring, other, one)
    want_closed(ring)
    return max(there[0], back[0]), min(there[1], back[1])

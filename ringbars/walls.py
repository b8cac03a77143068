"""Walls: the lengths of the last bar at which some lot is level [12]."""

from ringbars.checks import is_integer, is_list
from ringbars.errors import BadNumber, BadRing
from ringbars.gaps import excess_of
from ringbars.lots import lots_of
from ringbars.rings import are_lengths

LEAST_TOLD = 2
MOST_TOLD = 7


def walls(lengths):
    """All walls of the last bar, ascending."""
    want_told(lengths)
    return walls_of(lengths)


def wall_lots(lengths, wall):
    """The level lots with the last bar, in order, at a wall."""
    want_last(lengths, wall)
    lots = [lot for lot in lots_of(len(lengths)) if excess_of(lengths, lot) == -wall]
    return tuple([lot + (len(lengths),) for lot in lots])


def walls_of(lengths):
    """All walls of right lengths, ascending."""
    found = {excess_of(lengths, lot): True for lot in lots_of(len(lengths))}
    return tuple(sorted([wall for wall in found if wall > 0]))


def want_told(lengths):
    """Raise BadRing for what are no lengths of all bars but the last one."""
    if not is_list(lengths) or not LEAST_TOLD <= len(lengths) <= MOST_TOLD:
        raise BadRing("lengths")
    if not are_lengths(lengths):
        raise BadRing("lengths")


def want_last(lengths, wall):
    """Raise the errors of lengths, and of a wall of them."""
    want_told(lengths)
    if not is_integer(wall) or wall not in walls_of(lengths):
        raise BadNumber("wall")

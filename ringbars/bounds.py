"""Bounds of diagonals, and what they leave of each one [6]."""

from ringbars.checks import is_list, is_within, twice_at
from ringbars.cuttings import want_cutting, want_diagonal
from ringbars.errors import BadNumber, Twice
from ringbars.leads import is_clash, led, left_at_first
from ringbars.lots import lots_of, want_closed
from ringbars.papers import Denial, Paper
from ringbars.params import want_as_many
from ringbars.rings import want_ring


class Ranges(Paper):
    """For each diagonal the least and the greatest span under the bounds."""

    def __init__(self, ranges):
        super().__init__("ranges", ranges)
        self.ranges = self.parts[0]


class Clash(Denial):
    """Leads behind which nothing is left of a diagonal."""

    def __init__(self, rows):
        super().__init__("clash", rows)
        self.rows = self.parts[0]


def bounded(ring, cutting, bounds):
    """The Ranges under bounds, or a Clash."""
    want_bounded(ring, cutting, bounds)
    rows, left = led(cutting, left_at_first(ring, cutting, bounds))
    if is_clash(rows):
        return Clash(rows)
    return Ranges([(diagonal,) + left[diagonal] for diagonal in cutting.diagonals])


def least_clash(ring, cutting, bounds):
    """The fewest told diagonals whose bounds alone leave no shape, None if all do."""
    want_bounded(ring, cutting, bounds)
    if len(bounds) == 0:
        return None
    rows = sorted([(tuple(row[0]), at) for at, row in enumerate(bounds)])
    for lot in lots_of(len(rows)):
        some = [bounds[rows[number][1]] for number in lot]
        if not bounded(ring, cutting, some):
            return tuple([rows[number][0] for number in lot])
    return None


def want_bounded(ring, cutting, bounds):
    """Raise the errors of a ring, a cutting and bounds."""
    want_ring(ring, "ring")
    want_cutting(cutting, "cutting")
    want_bounds(cutting, bounds)
    want_as_many(len(ring), cutting.many)
    want_closed(ring)


def want_bounds(cutting, bounds):
    """Raise an error for what are no bounds of diagonals of a cutting."""
    if not is_list(bounds) or not all([is_bound(row) for row in bounds]):
        raise BadNumber("bounds")
    for row in bounds:
        want_diagonal(cutting, row[0])
    at = twice_at([row[0] for row in bounds])
    if at is not None:
        raise Twice(bounds[at][0])


def is_bound(value):
    """Whether it is a triple of anything, a low bound and a high one."""
    if not is_list(value) or len(value) != 3:
        return False
    told = [bound for bound in value[1:] if bound is not None]
    if not all([is_within(bound, 0, None) for bound in told]):
        return False
    return len(told) < 2 or told[0] <= told[1]

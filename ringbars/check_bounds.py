"""Checking the papers of ringbars.bounds [6]."""

from ringbars.bounds import Clash, Ranges, bounded, want_bounded
from ringbars.checks import is_exactly
from ringbars.cuttings import has_diagonal, has_triangle, sides_of
from ringbars.leads import lead, left_at_first
from ringbars.papers import is_called


def shows_bounded(ring, cutting, bounds, value):
    """Whether a value is the right Ranges, or a right Clash."""
    want_bounded(ring, cutting, bounds)
    if isinstance(value, Clash) and is_called(value, "Clash"):
        return leads_clash(cutting, left_at_first(ring, cutting, bounds), value.rows)
    if isinstance(value, Ranges) and is_called(value, "Ranges"):
        answer = bounded(ring, cutting, bounds)
        return bool(answer) and is_exactly(value.ranges, answer.ranges)
    return False


def leads_clash(cutting, left, rows):
    """Whether the rows are leads, the last one alone leaving nothing."""
    if not isinstance(rows, tuple) or len(rows) == 0:
        return False
    now = {side: left[side] for side in left}
    for at, row in enumerate(rows):
        if not is_lead(cutting, row):
            return False
        low, high = lead(now, row[1], row[0])
        if not is_exactly(row[2:], (low, high)):
            return False
        if (low > high) != (at == len(rows) - 1):
            return False
        now[row[0]] = (low, high)
    return True


def is_lead(cutting, row):
    """Whether a row begins with a diagonal, and a triangle beside it."""
    if not isinstance(row, tuple) or len(row) != 4:
        return False
    if not has_diagonal(cutting, row[0]) or not has_triangle(cutting, row[1]):
        return False
    return row[0] in sides_of(row[1])

"""What changes while the last bar grows [12]."""

from ringbars.cells import cell_counts
from ringbars.errors import TooMany
from ringbars.gaps import Bars
from ringbars.holes import holes_by_lots
from ringbars.lots import lots_by_sort, three_of
from ringbars.papers import Paper
from ringbars.walls import walls_of, want_told, want_last

MOST_TOLD = 5
MOST_BARS_HERE = 6


class Change(Paper):
    """Pieces, holes and cells of the rings just ahead of a wall, and just behind it."""

    def __init__(self, ahead, behind):
        super().__init__("change", ahead, behind)
        self.ahead = self.parts[0]
        self.behind = self.parts[1]


def books_between(lengths):
    """The books of the rings between neighbouring walls: triples (low, high, book)."""
    want_told(lengths)
    edges = (0,) + walls_of(lengths) + (None,)
    rows = []
    for at in range(len(edges) - 1):
        # No wall lies within one of an integer when all lengths are doubled.
        book = lots_by_sort(bars_doubled(lengths, 2 * edges[at] + 1), "short")
        rows.append((edges[at], edges[at + 1], book))
    return tuple(rows)


def change_at(lengths, wall):
    """The Change at a wall."""
    want_changed(lengths, wall)
    return Change(told_of(bars_doubled(lengths, 2 * wall - 1)), told_of(bars_doubled(lengths, 2 * wall + 1)))


def bars_doubled(lengths, last):
    """Bars of twice the told lengths, and a last one."""
    return Bars([2 * length for length in lengths] + [last])


def told_of(bars):
    """The triple of pieces, holes and cells of clear bars, by dimension."""
    if 2 * max(bars.lengths) > sum(bars.lengths):
        return 0, (), ()
    return (1 if three_of(bars) is None else 2), holes_by_lots(bars), cell_counts(bars)


def want_changed(lengths, wall):
    """Raise the errors of few lengths, and of a wall of them."""
    want_last(lengths, wall)
    if len(lengths) > MOST_TOLD:
        raise TooMany("bars", MOST_BARS_HERE)

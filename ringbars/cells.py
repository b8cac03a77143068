"""The cells of the room of all shapes [9]."""

from itertools import permutations
from math import factorial

from ringbars.checks import is_list, is_lot
from ringbars.errors import BadCell, TooMany
from ringbars.lots import long_three, want_clear
from ringbars.papers import fixed
from ringbars.params import want_lot, want_number

MOST_LISTED = 6


def is_cell(ring, value):
    """Whether any value is a cell of a ring."""
    want_clear(ring)
    return makes_cell(ring, value)


def cells(ring, dimension):
    """All cells of a dimension, ascending."""
    want_clear(ring)
    want_number(dimension, 0, len(ring) - 3, "dimension")
    want_few(ring, MOST_LISTED)
    return cells_of(ring, dimension)


def many_cells(ring):
    """How many cells there are of each dimension."""
    want_clear(ring)
    return cell_counts(ring)


def cells_with(ring, lot):
    """All cells one lot of which has all bars of this lot, by dimension."""
    want_clear(ring)
    bars = want_lot(lot, len(ring), "lot")
    want_few(ring, MOST_LISTED)
    found = []
    for dimension in range(len(ring) - 2):
        every = cells_of(ring, dimension)
        found = found + [cell for cell in every if any([has_all(part, bars) for part in cell])]
    return tuple(found)


def hand_of(ring, cell):
    """The hand of a cell: 1, -1 or 0."""
    want_clear(ring)
    want_cell(ring, cell)
    return hand_among(long_three(ring), cell)


def mirrored_cell(ring, cell):
    """The cell with its lots in the other order round."""
    want_clear(ring)
    want_cell(ring, cell)
    return mirror_of(fixed(cell))


def mirror_of(cell):
    """The mirrored one of a right cell."""
    return cell[:1] + cell[:0:-1]


def makes_cell(ring, value):
    """Whether any value is a cell of a ring that closes and is clear."""
    if not is_list(value) or len(value) < 3 or not all([is_lot(lot) for lot in value]):
        return False
    bars = [bar for lot in value for bar in lot]
    if sorted(bars) != list(range(len(ring))) or 0 not in value[0]:
        return False
    return all([len(lot) > 0 and ring.sort_of(lot) == "short" for lot in value])


def want_cell(ring, value):
    """Raise BadCell for what is no cell of a ring."""
    if not makes_cell(ring, value):
        raise BadCell("cell")


def want_few(ring, most):
    """Raise TooMany for a ring of more bars than most."""
    if len(ring) > most:
        raise TooMany("bars", most)


def partings(ring):
    """All ways to part the bars into short lots, each a tuple of lots.

    The lot with bar 0 stands first.
    """
    ways = [((0,),)]
    for bar in range(1, len(ring)):
        ways = [longer for way in ways for longer in with_bar(ring, way, bar)]
    return ways


def with_bar(ring, lots, bar):
    """All ways to put a bar to short lots, or behind them as one of its own."""
    ways = [lots + ((bar,),)]
    for at, lot in enumerate(lots):
        if ring.sort_of(lot + (bar,)) == "short":
            ways.append(lots[:at] + (lot + (bar,),) + lots[at + 1:])
    return ways


def cells_of(ring, dimension):
    """All cells of a dimension of a ring that closes and is clear, ascending."""
    found = []
    for lots in partings(ring):
        if len(lots) == dimension + 3:
            found = found + [lots[:1] + rest for rest in permutations(list(lots[1:]))]
    return tuple(sorted(found))


def cell_counts(ring):
    """How many cells of each dimension a ring has that closes and is clear."""
    sizes = [len(lots) for lots in partings(ring)]
    return tuple([sizes.count(size) * factorial(size - 1) for size in range(3, len(ring) + 1)])


def has_all(lot, bars):
    """Whether a lot has all of these bars."""
    return all([bar in lot for bar in bars])


def hand_among(three, lots):
    """The hand of lots in their order round, three being the long three or None."""
    if three is None:
        return 0
    places = [at for bar in three for at, lot in enumerate(lots) if bar in lot]
    least = places.index(min(places))
    turned = places[least:] + places[:least]
    return 1 if turned[1] < turned[2] else -1

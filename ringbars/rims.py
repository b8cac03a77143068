"""The rims of cells, what is above them, and their spots [9]."""

from ringbars.cells import MOST_LISTED, cells_of, want_cell, want_few
from ringbars.lots import lots_of, want_clear
from ringbars.papers import fixed
from ringbars.params import want_number


def rim_of(ring, cell):
    """All cells that come of one if two lots side by side are put together."""
    want_clear(ring)
    want_cell(ring, cell)
    return rim_cells(ring, fixed(cell))


def cells_above(ring, cell):
    """All cells in whose rim a cell is."""
    want_clear(ring)
    want_cell(ring, cell)
    return cells_cut(fixed(cell))


def spots_of(ring, cell):
    """All spots that come of a cell if lots are put together, once and again."""
    want_clear(ring)
    want_cell(ring, cell)
    found = [fixed(cell)]
    while len(found[0]) > 3:
        less = {one: True for more in found for one in rim_cells(ring, more)}
        found = sorted(list(less))
    return tuple(found)


def rim_numbers(ring, dimension):
    """For each cell of a dimension the numbers of the cells of its rim."""
    want_clear(ring)
    want_number(dimension, 1, len(ring) - 3, "dimension")
    want_few(ring, MOST_LISTED)
    return numbers_in_rims(ring, dimension)


def rim_cells(ring, cell):
    """The rim of a right cell, ascending."""
    found = []
    for at in range(len(cell)):
        both = tuple(sorted(cell[at] + cell[(at + 1) % len(cell)]))
        if ring.sort_of(both) == "short":
            found.append(with_both(cell, at, both))
    return tuple(sorted(found))


def with_both(cell, at, both):
    """The cell with this lot in the place of the one there and the next one."""
    if at == len(cell) - 1:
        return (both,) + cell[1:at]
    return cell[:at] + (both,) + cell[at + 2:]


def cells_cut(cell):
    """All cells that come of a right cell if one lot is cut in two, ascending."""
    found = []
    for at, lot in enumerate(cell):
        for places in lots_of(len(lot))[1:-1]:
            part = tuple([lot[place] for place in places])
            rest = tuple([bar for bar in lot if bar not in part])
            found.append(with_two(cell, at, part, rest))
    return tuple(sorted(found))


def with_two(cell, at, part, rest):
    """The cell with two lots in the place of the one there, that with bar 0 first."""
    if 0 in rest:
        return (rest,) + cell[1:] + (part,)
    return cell[:at] + (part, rest) + cell[at + 1:]


def numbers_in_rims(ring, dimension):
    """For each cell of a dimension the ascending numbers of its rim."""
    numbers = {cell: number for number, cell in enumerate(cells_of(ring, dimension - 1))}
    rows = [rim_cells(ring, cell) for cell in cells_of(ring, dimension)]
    return tuple([tuple([numbers[cell] for cell in row]) for row in rows])

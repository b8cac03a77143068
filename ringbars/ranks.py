"""Ranks, and heaps of cells that are filled or not [10]."""

from ringbars.cells import MOST_LISTED, cells_of, mirror_of, want_few
from ringbars.errors import Misfit
from ringbars.heaps import rim_added, want_heap
from ringbars.lots import want_clear
from ringbars.papers import Denial, Paper
from ringbars.params import want_number
from ringbars.rims import numbers_in_rims, rim_cells
from ringbars.twos import basis_of, bits_of, cleared, row_of, screen_of


class RimOf(Paper):
    """A heap whose rim is the told one."""

    def __init__(self, cells):
        super().__init__("rimof", cells)
        self.cells = self.parts[0]


class Screen(Denial):
    """A screen that has an odd number of cells in common with the told heap."""

    def __init__(self, cells):
        super().__init__("screen", cells)
        self.cells = self.parts[0]


class Pierced(Paper):
    """Rimless heaps and screens, with an odd number of cells in common one to one."""

    def __init__(self, heaps, screens):
        super().__init__("pierced", heaps, screens)
        self.heaps = self.parts[0]
        self.screens = self.parts[1]


def ranks_of(ring):
    """The ranks of a ring, from dimension 1 on."""
    want_listed(ring)
    return tuple([rank_of(rows_of(ring, at)) for at in range(1, len(ring) - 2)])


def holes_by_rims(ring):
    """The holes of a ring, by cells and ranks."""
    want_listed(ring)
    many = [len(cells_of(ring, at)) for at in range(len(ring) - 2)]
    return less_ranks(many, [rank_of(rows_of(ring, at)) for at in range(1, len(ring) - 2)])


def mirrored_holes(ring):
    """The holes of a ring by cells and ranks, mirrored cells taken for one."""
    want_listed(ring)
    many = [len(cells_of(ring, at)) // 2 for at in range(len(ring) - 2)]
    return less_ranks(many, [rank_of(rows_of_twos(ring, at)) for at in range(1, len(ring) - 2)])


def rim_of_heap(ring, heap):
    """The rim of a heap, ascending."""
    want_clear(ring)
    return rim_added(ring, want_heap(ring, heap))


def filled_by(ring, heap):
    """A RimOf the heap, or a Screen."""
    told = want_rimless(ring, heap)
    if told == ():
        return RimOf(())
    dimension = len(told[0]) - 3
    every = cells_of(ring, dimension)
    basis = basis_of(rows_of(ring, dimension + 1), len(every))[0]
    left = cleared(row_of([every.index(cell) for cell in told]), basis)
    own, told_rows = left & ((1 << len(every)) - 1), left >> len(every)
    if own == 0:
        return RimOf(cells_in(cells_of(ring, dimension + 1), told_rows))
    return Screen(cells_in(every, screen_of(basis, bits_of(own)[0])))


def pierced(ring, dimension):
    """A Pierced of a dimension: its holes, each shown by a heap and a screen."""
    want_dimension(ring, dimension)
    every = cells_of(ring, dimension)
    many = len(every)
    filled = basis_of(rows_of(ring, dimension + 1), many)[0]
    left = [cleared(row, filled) & ((1 << many) - 1) for row in rimless_rows(ring, dimension)]
    # No row of free has a pivot of filled: so the screen of its own pivot meets it alone.
    free = basis_of(left, many)[0]
    heaps = [cells_in(every, free[pivot] & ((1 << many) - 1)) for pivot in sorted(list(free))]
    screens = [cells_in(every, screen_of(filled, pivot)) for pivot in sorted(list(free))]
    return Pierced(heaps, screens)


def rows_of(ring, dimension):
    """For each cell of a dimension its rim, a row; none above the greatest dimension."""
    return [row_of(numbers) for numbers in numbers_in_rims(ring, dimension)]


def rows_of_twos(ring, dimension):
    """Likewise for each cell and its mirrored one, taken for one."""
    numbers = {cell: number for number, cell in enumerate(lesser_cells(ring, dimension - 1))}
    rows = []
    for cell in lesser_cells(ring, dimension):
        row = 0
        for one in rim_cells(ring, cell):
            row = row ^ 1 << numbers[min(one, mirror_of(one))]
        rows.append(row)
    return rows


def lesser_cells(ring, dimension):
    """The cells of a dimension that are less than their mirrored ones, ascending."""
    return [cell for cell in cells_of(ring, dimension) if cell < mirror_of(cell)]


def rimless_rows(ring, dimension):
    """Rows of rimless heaps of a dimension, of which all others come by adding.

    There are no cells below dimension 0, so there it is each cell alone.
    """
    many = len(cells_of(ring, dimension - 1))
    return [row >> many for row in basis_of(rows_of(ring, dimension), many)[1]]


def rank_of(rows):
    """How many of the rows there can be no one or more of which add up to nothing."""
    width = max([row.bit_length() for row in rows])
    return len(basis_of(rows, width)[0])


def less_ranks(many, ranks):
    """The numbers of the cells, each less the ranks of its dimension and of the next one."""
    both = [0] + list(ranks) + [0]
    return tuple([many[at] - both[at] - both[at + 1] for at in range(len(many))])


def cells_in(every, row):
    """The cells whose numbers are the bits of a row, ascending."""
    return tuple([every[bit] for bit in bits_of(row)])


def want_listed(ring):
    """Raise the errors of a clear ring of few bars."""
    want_clear(ring)
    want_few(ring, MOST_LISTED)


def want_rimless(ring, heap):
    """The rimless heap of a ring of few bars, ascending; raise an error for any other."""
    want_clear(ring)
    told = want_heap(ring, heap)
    if rim_added(ring, told) != ():
        raise Misfit("rim")
    want_few(ring, MOST_LISTED)
    return told


def want_dimension(ring, dimension):
    """Raise the errors of a clear ring of few bars, and of its dimension."""
    want_clear(ring)
    want_number(dimension, 0, len(ring) - 3, "dimension")
    want_few(ring, MOST_LISTED)

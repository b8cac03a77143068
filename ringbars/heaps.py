"""Heaps of cells, added by two [10]."""

from ringbars.cells import makes_cell
from ringbars.checks import is_list, twice_at
from ringbars.errors import BadCell, Misfit, Twice
from ringbars.papers import fixed
from ringbars.rims import cells_cut, rim_cells


def added(heaps):
    """What is in an odd number of heaps, ascending."""
    odd = {}
    for heap in heaps:
        for cell in heap:
            odd[cell] = not odd.get(cell, False)
    return tuple(sorted([cell for cell in odd if odd[cell]]))


def rim_added(ring, heap):
    """The rim of a right heap, ascending."""
    return added([rim_cells(ring, cell) for cell in heap])


def is_screen(heap):
    """Whether each cell of one dimension more has an even number in its rim."""
    return added([cells_cut(cell) for cell in heap]) == ()


def are_odd(one, other):
    """Whether two heaps have an odd number of cells in common."""
    inside = {cell: True for cell in other}
    return len([cell for cell in one if cell in inside]) % 2 == 1


def makes_heap(ring, value):
    """Whether any value is a list of cells of one dimension, each once."""
    if not is_list(value) or not all([makes_cell(ring, cell) for cell in value]):
        return False
    return twice_at(value) is None and are_of_one(value)


def are_of_one(cells):
    """Whether all cells are of one dimension."""
    return all([len(cell) == len(cells[0]) for cell in cells])


def want_heap(ring, value):
    """The heap, ascending; raise an error for what is none."""
    if not is_list(value) or not all([makes_cell(ring, cell) for cell in value]):
        raise BadCell("heap")
    at = twice_at(value)
    if at is not None:
        raise Twice(value[at])
    if not are_of_one(value):
        raise Misfit("dimension")
    return tuple(sorted(fixed(value)))

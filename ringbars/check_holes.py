"""Checking the papers of ringbars.ranks [10]."""

from ringbars.heaps import are_odd, is_screen, makes_heap, rim_added
from ringbars.holes import holes_by_lots
from ringbars.papers import is_called
from ringbars.ranks import Pierced, RimOf, Screen, want_dimension, want_rimless


def shows_filled(ring, heap, value):
    """Whether a value is a right RimOf or Screen of a rimless heap."""
    told = want_rimless(ring, heap)
    if isinstance(value, RimOf) and is_called(value, "RimOf"):
        return makes_heap(ring, value.cells) and rim_added(ring, value.cells) == told
    if isinstance(value, Screen) and is_called(value, "Screen"):
        if not makes_heap(ring, value.cells) or not is_screen(value.cells):
            return False
        return are_odd(told, value.cells)
    return False


def shows_pierced(ring, dimension, value):
    """Whether a value is a right Pierced of a dimension."""
    want_dimension(ring, dimension)
    if not isinstance(value, Pierced) or not is_called(value, "Pierced"):
        return False
    many = holes_by_lots(ring)[dimension]
    for heaps in (value.heaps, value.screens):
        if not are_heaps(ring, dimension, heaps) or len(heaps) != many:
            return False
    if any([rim_added(ring, heap) != () for heap in value.heaps]):
        return False
    return all([is_screen(heap) for heap in value.screens]) and are_paired(value)


def are_heaps(ring, dimension, value):
    """Whether they are heaps of one dimension, no cell twice in one."""
    if not isinstance(value, tuple) or not all([makes_heap(ring, heap) for heap in value]):
        return False
    return all([len(cell) == dimension + 3 for heap in value for cell in heap])


def are_paired(paper):
    """Whether just a heap and the screen with its number have an odd number in common."""
    for at, heap in enumerate(paper.heaps):
        for number, screen in enumerate(paper.screens):
            if are_odd(heap, screen) != (at == number):
                return False
    return True

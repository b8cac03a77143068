"""ringbars.check_holes: whether papers of heaps are right."""

import unittest
from itertools import combinations

from ringbars.cells import cells
from ringbars.check_holes import shows_filled, shows_pierced
from ringbars.errors import BadCell, BadNumber, Misfit, TooMany, Twice
from ringbars.ranks import Pierced, RimOf, Screen, filled_by, pierced, rim_of_heap
from ringbars.rings import Ring
from tests.common import HUGE, NO_INTEGERS, ODD, Case, as_lists, bent_papers
from tests.plain import all_cells, by_dimension, odd_ones, rim
from tests.test_cells import NO_CELLS
from tests.test_ranks import FEW, SMALL, rim_added, rimless_heaps


def is_heap(every, value):
    """Whether it is a tuple of cells of one dimension, looked at one by one."""
    if not isinstance(value, tuple):
        return False
    for found in every:
        told = set(map(repr, found))
        if all(repr(cell) in told for cell in value):
            return len(set(value)) == len(value)
    return False


def is_screen(lengths, every, heap):
    """Whether each cell of one dimension more has an even number in its rim."""
    size = len(heap[0]) + 1 if heap else 0
    above = [cell for found in every for cell in found if len(cell) == size]
    return all(len(set(rim(lengths, cell)) & set(heap)) % 2 == 0 for cell in above)


class CheckHolesTest(Case):

    def setUp(self):
        self.small, self.two = Ring([2, 1, 1, 1]), Ring([2, 2, 2, 1])
        self.far = rim_of_heap(self.small, [[[0], [1], [3], [2]], [[0], [1], [2], [3]]])

    def test_examples(self):
        small, two, far = self.small, self.two, self.far
        told = [shows_filled(small, far, RimOf(cells(small, 1)[:2])),
                shows_filled(small, far[:1], Screen(cells(small, 0))),
                shows_filled(small, far, Screen(cells(small, 0)))]
        self.like(told, [True, True, False])
        told = [shows_pierced(small, 0, Pierced([far[:1]], [cells(small, 0)])),
                shows_pierced(two, 0, Pierced([cells(two, 0)[:1]], [cells(two, 0)])),
                shows_pierced(small, 1, Pierced([cells(small, 1)], [cells(small, 1)[3:4]]))]
        self.like(told, [True, False, True])
        self.raises(Misfit("rim"), shows_filled, small, cells(small, 1)[:1], None)

    def test_all_answers(self):
        for lengths in FEW:
            ring = Ring(lengths)
            for heap in rimless_heaps(lengths)[::5 if len(lengths) < 6 else 25]:
                paper = filled_by(ring, heap)
                self.assertIs(shows_filled(ring, as_lists(heap), paper), True)
                turned = type(paper)(as_lists(paper.cells[::-1]))
                self.assertIs(shows_filled(ring, tuple(heap[::-1]), turned), True)
            for dimension in range(len(lengths) - 2):
                paper = pierced(ring, dimension)
                self.assertIs(shows_pierced(ring, dimension, paper), True)
                turned = Pierced(as_lists(paper.heaps[::-1]), as_lists(paper.screens[::-1]))
                self.assertIs(shows_pierced(ring, dimension, turned), True)

    def plain_filled(self, lengths, every, heap, paper):
        """Whether a paper is right, by all cells."""
        if not is_heap(every, paper.cells):
            return False
        if type(paper) is RimOf:
            return rim_added(lengths, paper.cells) == set(heap)
        return is_screen(lengths, every, paper.cells) and len(set(paper.cells) & set(heap)) % 2 == 1

    def test_all_small_papers(self):
        # Each heap of no, one, two or all cells, as a RimOf and as a Screen.
        for lengths in ([2, 1, 1, 1], [2, 2, 2, 1], [3, 4, 5]):
            ring, every = Ring(lengths), by_dimension(lengths)
            told = [()] + [tuple(found) for found in every]
            told += [two for found in every for size in (1, 2, 3) for two in combinations(found, size)]
            told += [(every[0][0], every[-1][-1])]
            for heap in rimless_heaps(lengths)[:12]:
                for value in told:
                    for kind in (RimOf, Screen):
                        right = self.plain_filled(lengths, every, heap, kind(value))
                        self.assertIs(shows_filled(ring, heap, kind(value)), right)

    def test_of_no_cell(self):
        for lengths in SMALL:
            ring, every = Ring(lengths), by_dimension(lengths)
            for found in every:
                self.assertIs(shows_filled(ring, [], Screen(found)), False)
                is_rimless = not rim_added(lengths, found)
                self.assertIs(shows_filled(ring, [], RimOf(found)), is_rimless)
                self.assertIs(shows_filled(ring, [], RimOf(found[:1])), len(found[0]) == 3)
            self.assertIs(shows_filled(ring, (), RimOf([])), True)
            self.assertIs(shows_filled(ring, (), Screen([])), False)

    def test_bent(self):
        for lengths in ([2, 1, 1, 1], [2, 2, 2, 1], [1, 1, 1, 1, 1]):
            ring, every = Ring(lengths), by_dimension(lengths)
            for heap in rimless_heaps(lengths)[::9]:
                paper = filled_by(ring, heap)
                for bad in bent_papers(paper):
                    right = self.plain_filled(lengths, every, heap, bad)
                    self.assertIs(shows_filled(ring, heap, bad), right, bad.parts)
                self.no_papers(lambda value: shows_filled(ring, heap, value), paper)

    def plain_pierced(self, lengths, every, dimension, many, paper):
        for row in (paper.heaps, paper.screens):
            if not isinstance(row, tuple) or len(row) != many:
                return False
            if not all(is_heap(every[dimension:dimension + 1], heap) for heap in row):
                return False
        if any(rim_added(lengths, heap) for heap in paper.heaps):
            return False
        if not all(is_screen(lengths, every, heap) for heap in paper.screens):
            return False
        return all(len(set(heap) & set(screen)) % 2 == int(at == number)
                   for at, heap in enumerate(paper.heaps)
                   for number, screen in enumerate(paper.screens))

    def test_bent_pierced(self):
        for lengths in ([3, 4, 5], [2, 1, 1, 1], [2, 2, 2, 1], [4, 2, 2, 2, 1]):
            ring, every = Ring(lengths), by_dimension(lengths)
            for dimension in range(len(every)):
                paper = pierced(ring, dimension)
                many = len(paper.heaps)
                for bad in list(bent_papers(paper))[::1 if len(every) < 3 else 7]:
                    right = self.plain_pierced(lengths, every, dimension, many, bad)
                    self.assertIs(shows_pierced(ring, dimension, bad), right, bad.parts)
                self.no_papers(lambda value: shows_pierced(ring, dimension, value), paper)
                less = Pierced(paper.heaps[1:], paper.screens[1:])
                self.assertIs(shows_pierced(ring, dimension, less), False)
                for other in range(len(every)):
                    if other != dimension:
                        self.assertIs(shows_pierced(ring, other, paper), False)

    def test_other_right_pierced(self):
        two = self.two
        spots = all_cells([2, 2, 2, 1], 3)
        half = [cell for cell in spots if cell in odd_ones([spots[:1]])]
        hands = [[cell for cell in spots if self.hand(cell) == hand] for hand in (1, -1)]
        self.assertIs(shows_pierced(two, 0, Pierced([half, hands[1][:1]], hands)),
                      self.hand(half[0]) == 1)
        self.assertIs(shows_pierced(two, 0, Pierced([hands[0][:3], hands[1][1:2]], hands)), True)
        self.assertIs(shows_pierced(two, 0, Pierced([hands[0][:2], hands[1][1:2]], hands)), False)
        self.assertIs(shows_pierced(two, 0, Pierced([hands[1][:1], hands[0][:1]], hands)), False)

    def test_heaps_of_two_dimensions(self):
        both = [pierced(self.two, dimension) for dimension in (0, 1)]
        for one, other in (both, both[::-1]):
            mixed = Pierced(one.heaps[:1] + other.heaps[:1], one.screens[:1] + other.screens[:1])
            for dimension in (0, 1):
                self.assertIs(shows_pierced(self.two, dimension, mixed), False)

    def hand(self, cell):
        row = [bar for lot in cell for bar in lot if bar < 3]
        return 1 if row in ([0, 1, 2], [1, 2, 0], [2, 0, 1]) else -1

    def test_wrong(self):
        small, seven = self.small, Ring([1] * 7)
        self.wrong_rings(shows_filled, None, None)
        self.wrong_rings(shows_pierced, None, None)
        spot, whole = ((0, 1, 2), (3, 4, 5), (6,)), tuple((bar,) for bar in range(7))
        for value in NO_CELLS:
            self.raises(BadCell("heap"), shows_filled, small, [value], value)
        cell = cells(small, 1)[0]
        self.raises(Twice(as_lists(cell)), shows_filled, small, [cell, as_lists(cell)], None)
        self.raises(Misfit("dimension"), shows_filled, small, [cell, cells(small, 0)[0]], None)
        self.raises(Misfit("rim"), shows_filled, small, [cell], None)
        self.raises(Misfit("rim"), shows_filled, seven, [whole], None)
        for value in ODD:
            self.raises(TooMany("bars", 6), shows_filled, seven, [spot], value)
            self.raises(TooMany("bars", 6), shows_pierced, seven, 4, value)
        for value in NO_INTEGERS + (-1, 2, HUGE):
            self.raises(BadNumber("dimension"), shows_pierced, small, value, None)
        self.raises(BadNumber("dimension"), shows_pierced, seven, 5, None)


if __name__ == "__main__":
    unittest.main()

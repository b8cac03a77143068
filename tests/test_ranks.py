"""ringbars.ranks: ranks, rims of heaps, what is filled, what is pierced."""

import unittest
from itertools import combinations

from ringbars.cells import cells, mirrored_cell
from ringbars.errors import BadCell, BadNumber, Misfit, TooMany, Twice
from ringbars.holes import holes, space_holes
from ringbars.ranks import Pierced, RimOf, Screen, filled_by, holes_by_rims, mirrored_holes, pierced
from ringbars.ranks import ranks_of, rim_of_heap
from ringbars.rings import Ring
from tests.common import CLEAR, HUGE, NO_INTEGERS, ODD, Case, as_lists
from tests.plain import by_dimension, holes as plain_holes, odd_ones, rank, rim
from tests.test_cells import NO_CELLS

FEW = [lengths for lengths in CLEAR if len(lengths) <= 6]
SMALL = [lengths for lengths in CLEAR if len(lengths) <= 5]


def rim_added(lengths, heap):
    """The rim of a heap, by the rims of its cells."""
    return odd_ones([rim(lengths, cell) for cell in heap]) if heap and len(heap[0]) > 3 else set()


def some_heaps(lengths):
    """Heaps of all dimensions: of no cell, of one, of two, of all, of many."""
    found = [[]]
    for every in by_dimension(lengths):
        found += [every, every[::2], every[1::3], every[:5]] + [[cell] for cell in every[::7]]
        found += [list(two) for two in list(combinations(every[::9], 2))[::7][:12]]
    return found


def rimless_heaps(lengths):
    """The rims of such heaps, the heaps that are rimless themselves, and sums of them."""
    heaps = some_heaps(lengths)
    found = [heap for heap in heaps if not rim_added(lengths, heap)]
    found += [sorted(rim_added(lengths, heap)) for heap in heaps]
    return [list(row) for row in sorted(set(map(tuple, found)))]


class RanksTest(Case):

    def setUp(self):
        self.small, self.two = Ring([2, 1, 1, 1]), Ring([2, 2, 2, 1])
        self.five = Ring([1, 1, 1, 1, 1])

    def test_examples(self):
        small, two, five = self.small, self.two, self.five
        told = [ranks_of(five), holes_by_rims(five), mirrored_holes(five), ranks_of(two),
                ranks_of(Ring([3, 4, 5]))]
        self.like(told, [(29, 23), (1, 8, 1), (1, 5, 1), (4,), ()])
        far = rim_of_heap(small, [[[0], [1], [3], [2]], [[0], [1], [2], [3]]])
        told = [far, rim_of_heap(small, cells(small, 1)), filled_by(small, far).word,
                filled_by(small, far[:1]).word]
        self.like(told, [(((0,), (1, 2), (3,)), ((0,), (1, 3), (2,))), (), "rimof", "screen"])
        told = [len(pierced(five, 1).heaps), pierced(small, 1).heaps == (cells(small, 1),),
                pierced(Ring([3, 4, 5]), 0).word]
        self.like(told, [8, True, "pierced"])
        self.raises(Misfit("rim"), filled_by, small, cells(small, 1)[:1])

    def test_ranks_by_plain_elimination(self):
        for lengths in FEW:
            every = by_dimension(lengths)
            rows = [rank([rim(lengths, cell) for cell in found]) for found in every[1:]]
            self.like(ranks_of(Ring(lengths)), tuple(rows))
            many = [len(found) for found in every]
            self.like(holes_by_rims(Ring(lengths)), plain_holes(many, rows))

    def test_mirrored_by_plain_elimination(self):
        for lengths in FEW:
            ring, every = Ring(lengths), by_dimension(lengths)
            twos = [{frozenset((cell, mirrored_cell(ring, cell))) for cell in found} for found in every]
            rows = [rank([self.rim_of_two(ring, two) for two in found]) for found in twos[1:]]
            self.like(mirrored_holes(ring), plain_holes([len(found) for found in twos], rows))

    def rim_of_two(self, ring, two):
        """The twos in the rim of either cell, each told by its lesser cell."""
        found = {min(one, mirrored_cell(ring, one)) for one in rim(ring.lengths, min(two))}
        other = {min(one, mirrored_cell(ring, one)) for one in rim(ring.lengths, max(two))}
        self.assertEqual(found, other)
        return found

    def test_holes_by_lots(self):
        for lengths in FEW:
            ring = Ring(lengths)
            self.assertEqual(holes_by_rims(ring), holes(ring))
            self.assertEqual(mirrored_holes(ring), space_holes(ring))

    def test_rims_of_heaps(self):
        for lengths in FEW:
            ring = Ring(lengths)
            for heap in some_heaps(lengths):
                told = rim_of_heap(ring, as_lists(heap[::-1]))
                self.like(told, tuple(sorted(rim_added(lengths, heap))))
                self.like(rim_of_heap(ring, told), ())

    def test_filled(self):
        for lengths in FEW:
            ring, every = Ring(lengths), by_dimension(lengths)
            for heap in rimless_heaps(lengths)[::(1, 1, 5, 20)[len(lengths) - 3]]:
                paper = filled_by(ring, as_lists(heap[::-1]))
                self.assertEqual(paper, filled_by(ring, tuple(heap)))
                self.check_filled(lengths, every, heap, paper)

    def check_filled(self, lengths, every, heap, paper):
        kind = type(paper)
        if not heap:
            self.assertIs(kind, RimOf)
            self.like(paper.cells, ())
            return
        dimension = len(heap[0]) - 3
        above = every[dimension + 1] if dimension + 1 < len(every) else []
        rows = [rim(lengths, cell) for cell in above]
        self.assertIn(kind, (RimOf, Screen))
        self.assertEqual(len(set(paper.cells)), len(paper.cells))
        if kind is RimOf:
            self.assertTrue(set(paper.cells) <= set(above))
            self.assertEqual(rim_added(lengths, paper.cells), set(heap))
        else:
            self.assertTrue(set(paper.cells) <= set(every[dimension]))
            self.assertEqual(len(set(paper.cells) & set(heap)) % 2, 1)
            for row in rows:
                self.assertEqual(len(set(paper.cells) & set(row)) % 2, 0)

    def test_pierced(self):
        for lengths in FEW:
            ring, every = Ring(lengths), by_dimension(lengths)
            for dimension, found in enumerate(every):
                paper = pierced(ring, dimension)
                self.assertIs(type(paper), Pierced)
                self.assertEqual(paper, pierced(ring, dimension))
                self.assertEqual(len(paper.heaps), holes(ring)[dimension])
                self.assertEqual(len(paper.screens), len(paper.heaps))
                above = every[dimension + 1] if dimension + 1 < len(every) else []
                rows = [set(rim(lengths, cell)) for cell in above]
                for heap in paper.heaps:
                    self.assertTrue(set(heap) <= set(found))
                    self.assertEqual(rim_added(lengths, heap), set())
                for screen in paper.screens:
                    self.assertTrue(set(screen) <= set(found))
                    self.assertTrue(all(len(row & set(screen)) % 2 == 0 for row in rows))
                for at, heap in enumerate(paper.heaps):
                    common = [len(set(heap) & set(screen)) % 2 for screen in paper.screens]
                    self.assertEqual(common, [int(at == k) for k in range(len(common))])

    def test_wrong_rings(self):
        for call, more in ((ranks_of, ()), (holes_by_rims, ()), (mirrored_holes, ()), (rim_of_heap, (None,)),
                           (filled_by, (None,)), (pierced, (None,))):
            self.wrong_rings(call, *more)
        for call in (ranks_of, holes_by_rims, mirrored_holes):
            self.raises(TooMany("bars", 6), call, Ring([1] * 7))

    def test_wrong_heaps(self):
        small, spot, cell = self.small, [[0], [1, 2], [3]], ((0,), (1,), (2,), (3,))
        for call in (rim_of_heap, filled_by):
            for value in ODD:
                if value not in ([], ()):
                    self.raises(BadCell("heap"), call, small, value)
            for value in NO_CELLS:
                self.raises(BadCell("heap"), call, small, [value])
                self.raises(BadCell("heap"), call, small, (spot, spot, value))
            self.raises(Twice(as_lists(cell)), call, small, [cell, spot, as_lists(cell), spot])
            self.raises(Twice(cell), call, small, (as_lists(cell), cell))
            self.raises(Twice(spot), call, small, [cell, spot, spot, cell])
            self.raises(Misfit("dimension"), call, small, [cell, spot])
        self.raises(Misfit("dimension"), filled_by, small, [spot, cell])
        self.raises(Misfit("rim"), filled_by, small, [cell])
        self.like(rim_of_heap(small, []), ())
        self.like(filled_by(small, ()).cells, ())

    def test_seven_bars(self):
        seven = Ring([1] * 7)
        whole = tuple((bar,) for bar in range(7))
        spot = ((0, 1, 2), (3, 4, 5), (6,))
        self.assertEqual(len(rim_of_heap(seven, [whole])), 7)
        self.like(rim_of_heap(seven, [spot]), ())
        self.raises(BadCell("heap"), filled_by, seven, [whole, None])
        self.raises(Twice(whole), filled_by, seven, [whole, whole])
        self.raises(Misfit("dimension"), filled_by, seven, [whole, spot])
        self.raises(Misfit("rim"), filled_by, seven, [whole])
        self.raises(TooMany("bars", 6), filled_by, seven, [spot])
        self.raises(TooMany("bars", 6), filled_by, seven, [])
        self.raises(BadNumber("dimension"), pierced, seven, 5)
        self.raises(TooMany("bars", 6), pierced, seven, 0)

    def test_wrong_dimensions(self):
        for value in NO_INTEGERS + (-1, 2, HUGE):
            self.raises(BadNumber("dimension"), pierced, self.small, value)

    def test_what_is_passed_is_copied(self):
        heap = as_lists(cells(self.small, 1))
        paper = filled_by(self.small, heap)
        heap[0].append([9])
        self.assertEqual(paper, filled_by(self.small, cells(self.small, 1)))


if __name__ == "__main__":
    unittest.main()

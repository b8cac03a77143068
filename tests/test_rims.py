"""ringbars.rims: rims, cells above, spots."""

import unittest

from ringbars.cells import cells, hand_of, many_cells, mirrored_cell
from ringbars.errors import BadCell, BadNumber, TooMany
from ringbars.rims import cells_above, rim_numbers, rim_of, spots_of
from ringbars.rings import Ring
from tests.common import CLEAR, HUGE, NO_INTEGERS, ODD, Case, as_lists
from tests.plain import by_dimension, put_together, rim, sort_of
from tests.test_cells import NO_CELLS

FEW = [lengths for lengths in CLEAR if len(lengths) <= 6]


def merged_down(cell):
    """All spots that come of a cell, tried one merge after the other."""
    if len(cell) == 3:
        return {cell}
    return set().union(*[merged_down(put_together(cell, at)) for at in range(len(cell))])


class RimsTest(Case):

    def setUp(self):
        self.small = Ring([2, 1, 1, 1])

    def test_examples(self):
        small, five = self.small, Ring([1, 1, 1, 1, 1])
        told = [rim_of(small, [[0], [1], [2], [3]]), cells_above(small, [[0], [1, 2], [3]]),
                rim_numbers(small, 1)[0]]
        self.like(told, [(((0,), (1,), (2, 3)), ((0,), (1, 2), (3,))),
                         (((0,), (1,), (2,), (3,)), ((0,), (2,), (1,), (3,))), (0, 1)])
        whole = [[0], [1], [2], [3], [4]]
        told = [many_cells(five), spots_of(five, whole)[:3], len(rim_of(five, whole))]
        self.like(told, [(30, 60, 24), (((0,), (1, 2), (3, 4)), ((0, 1), (2,), (3, 4)),
                                        ((0, 1), (2, 3), (4,))), 5])
        self.raises(BadCell("cell"), rim_of, small, [[0, 1], [2], [3]])
        self.assertEqual(len(spots_of(five, whole)), 5)

    def test_against_all_cells(self):
        for lengths in FEW:
            ring, every = Ring(lengths), by_dimension(lengths)
            for dimension, found in enumerate(every):
                less = every[dimension - 1] if dimension else []
                more = every[dimension + 1] if dimension + 1 < len(every) else []
                rims = {cell: rim(lengths, cell) for cell in more}
                some = found if len(lengths) < 6 else found[::11]
                for cell in some:
                    told = rim_of(ring, as_lists(cell))
                    self.like(told, tuple(rim(lengths, cell)))
                    self.assertTrue(set(told) <= set(less))
                    over = [one for one in more if cell in rims[one]]
                    self.like(cells_above(ring, as_lists(cell)), tuple(over))
                    self.assertEqual(len(over), sum(2 ** len(lot) - 2 for lot in cell))

    def test_rim_numbers(self):
        for lengths in FEW:
            ring, every = Ring(lengths), by_dimension(lengths)
            for dimension in range(1, len(lengths) - 2):
                told = rim_numbers(ring, dimension)
                numbers = {cell: at for at, cell in enumerate(every[dimension - 1])}
                rows = [tuple(sorted(numbers[one] for one in rim(lengths, cell)))
                        for cell in every[dimension]]
                self.like(told, tuple(rows))

    def test_spots(self):
        for lengths in FEW:
            ring, every = Ring(lengths), by_dimension(lengths)
            for dimension, found in enumerate(every):
                some = found if len(lengths) < 6 else found[::17]
                for cell in some:
                    right = sorted(merged_down(cell) & set(every[0]))
                    self.like(spots_of(ring, as_lists(cell)), tuple(right))
                    if dimension == 0:
                        self.like(spots_of(ring, cell), (cell,))
                        self.like(rim_of(ring, cell), ())
                    if dimension == len(every) - 1:
                        self.like(cells_above(ring, cell), ())

    def test_facts(self):
        for lengths in FEW:
            ring = Ring(lengths)
            for cell in cells(ring, len(lengths) - 3)[::5]:
                for one in rim_of(ring, cell):
                    self.assertEqual(hand_of(ring, one), hand_of(ring, cell))
                    self.assertIn(cell, cells_above(ring, one))
                mirrored = {mirrored_cell(ring, one) for one in rim_of(ring, cell)}
                self.assertEqual(set(rim_of(ring, mirrored_cell(ring, cell))), mirrored)
            if len(lengths) > 3:
                for row in rim_numbers(ring, 1):
                    self.assertEqual(len(row), 2)

    def test_seven_and_eight_bars(self):
        seven, eight = Ring([1] * 7), Ring([2, 1, 1, 1, 1, 1, 1, 1])
        whole = tuple((bar,) for bar in range(7))
        self.assertEqual(len(rim_of(seven, whole)), 7)
        self.check_spots(seven, whole, 14)
        self.like(cells_above(seven, ((0, 1, 2), (3, 4, 5), (6,)))[0],
                  ((0,), (1, 2), (3, 4, 5), (6,)))
        self.assertEqual(len(cells_above(seven, ((0, 1, 2), (3, 4, 5), (6,)))), 12)
        self.check_spots(eight, tuple((bar,) for bar in range(8)), 20)
        self.raises(BadCell("cell"), cells_above, eight, ((0, 1, 2), (3, 4, 5), (6,)))
        cut = Ring([7, 1, 1, 1, 1, 1, 1, 6])
        self.assertEqual(len(cells_above(cut, ((0,), (1, 2, 3, 4, 5, 6), (7,)))), 62)

    def check_spots(self, ring, whole, many):
        right = [cell for cell in merged_down(whole)
                 if all(sort_of(ring.lengths, lot) == "short" for lot in cell)]
        self.like(spots_of(ring, whole), tuple(sorted(right)))
        self.assertEqual(len(right), many)

    def test_three_bars(self):
        ring = Ring([3, 4, 5])
        cell = ((0,), (2,), (1,))
        self.like([rim_of(ring, cell), cells_above(ring, cell), spots_of(ring, cell)], [(), (), (cell,)])
        for value in (0, 1, -1, None):
            self.raises(BadNumber("dimension"), rim_numbers, ring, value)

    def test_wrong(self):
        small, seven = self.small, Ring([1] * 7)
        for call in (rim_of, cells_above, spots_of):
            self.wrong_rings(call, None)
            for value in NO_CELLS:
                self.raises(BadCell("cell"), call, small, value)
        self.wrong_rings(rim_numbers, None)
        for value in NO_INTEGERS + (-1, 0, 2, HUGE):
            self.raises(BadNumber("dimension"), rim_numbers, small, value)
        for value in NO_INTEGERS + (0, 5):
            self.raises(BadNumber("dimension"), rim_numbers, seven, value)
        self.raises(TooMany("bars", 6), rim_numbers, seven, 1)
        for value in ODD:
            self.raises(BadCell("cell"), rim_of, seven, value)

    def test_what_is_passed_stays(self):
        cell = [[0], [1], [2], [3]]
        for call in (rim_of, cells_above, spots_of):
            self.like(call(self.small, cell), call(self.small, tuple(map(tuple, cell))))
            self.assertEqual(cell, [[0], [1], [2], [3]])


if __name__ == "__main__":
    unittest.main()

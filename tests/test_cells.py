"""ringbars.cells: the cells of the room of all shapes."""

import unittest
from itertools import permutations
from math import factorial

from ringbars.cells import cells, cells_with, hand_of, is_cell, many_cells, mirrored_cell
from ringbars.errors import BadCell, BadLot, BadNumber, BadRing, Level, NoBar, TooLong, TooMany
from ringbars.errors import Twice
from ringbars.lots import level_lots
from ringbars.rings import Ring
from tests.common import CLEAR, HUGE, NO_INTEGERS, ODD, OPEN, UNCLEAR, Case
from tests.plain import all_cells, long_three, sort_of, subsets

FEW = [lengths for lengths in CLEAR if len(lengths) <= 6]
NO_CELLS = ODD + ([[0, 1], [2], [3]], [[0], [2, 1], [3]], [[1, 2], [0], [3]], [[0], [1, 2]], [[0], [1, 2, 3]],
                  [[0], [1], [2]], [[0], [1], [2], [3], []], [[0], [1], [2], [2, 3]], [[0], [1], [2], [4]],
                  [[0], [1], [2], [True]], [[False], [1], [2], [3]], [0, 1, 2, 3], ["0", "1", "2", "3"],
                  [[0], [1], [2], 3], {(0,): 1, (1,): 1, (2,): 1}, [[0, 0], [1], [2], [3]], [[0], [1], [], [2, 3]],
                  [[[0]], [1], [2], [3]], [[0], [1], [2], [3, -1]], [[0], [1], [2], [3], None])


def merged(cell, at):
    """The lots with one of them and the next one put together, bar 0 ahead."""
    behind = (at + 1) % len(cell)
    both = tuple(sorted(cell[at] + cell[behind]))
    if behind == 0:
        return (both,) + cell[1:at]
    return cell[:at] + (both,) + cell[behind + 1:]


class CellsTest(Case):

    def setUp(self):
        self.small, self.two = Ring([2, 1, 1, 1]), Ring([2, 2, 2, 1])

    def test_examples(self):
        small, two = self.small, self.two
        told = [many_cells(small), cells(small, 0)[:2], is_cell(small, [[0], [1, 2], [3]]),
                is_cell(small, [[0, 1], [2], [3]]), many_cells(Ring([4, 4, 4, 1, 1]))]
        self.like(told, [(6, 6), (((0,), (1,), (2, 3)), ((0,), (1, 2), (3,))), True, False,
                         (18, 42, 24)])
        told = [cells_with(small, [1, 2]), hand_of(two, [[0], [2], [1, 3]]),
                hand_of(small, [[0], [2], [1, 3]]), mirrored_cell(two, [[0], [1], [2, 3]])]
        self.like(told, [(((0,), (1, 2), (3,)), ((0,), (3,), (1, 2))), -1, 0,
                         ((0,), (2, 3), (1,))])
        self.raises(Level((0, 1)), cells, Ring([1, 1, 1, 1]), 7)

    def test_against_all_places(self):
        for lengths in FEW:
            ring = Ring(lengths)
            every = [all_cells(lengths, size) for size in range(3, len(lengths) + 1)]
            self.like(many_cells(ring), tuple(len(found) for found in every))
            for dimension, found in enumerate(every):
                self.like(cells(ring, dimension), tuple(found))
            self.check_with(ring, [cell for found in every for cell in found])

    def check_with(self, ring, every):
        for lot in subsets(len(ring)):
            found = [cell for cell in every if any(set(lot) <= set(part) for part in cell)]
            self.like(cells_with(ring, lot[::-1]), tuple(found))
            if len(lot) < 2:
                self.assertEqual(found, every)
            if sort_of(ring.lengths, lot) == "long":
                self.assertEqual(found, [])

    def test_many_cells_of_all_rings(self):
        for lengths in CLEAR:
            counts = [0] * (len(lengths) + 1)
            for size in self.partings(lengths, list(range(len(lengths))), 0):
                counts[size] += 1
            right = [counts[size] * factorial(size - 1) for size in range(3, len(lengths) + 1)]
            self.like(many_cells(Ring(lengths)), tuple(right))

    def partings(self, lengths, left, size):
        if not left:
            return [size]
        first, rest = left[0], left[1:]
        found = []
        for lot in subsets(len(rest)):
            bars = (first,) + tuple(rest[at] for at in lot)
            if sort_of(lengths, bars) == "short":
                later = [bar for bar in rest if bar not in bars]
                found += self.partings(lengths, later, size + 1)
        return found

    def test_facts(self):
        for lengths in FEW:
            ring = Ring(lengths)
            for dimension in range(len(lengths) - 2):
                every = cells(ring, dimension)
                above = cells(ring, dimension + 1) if dimension < len(lengths) - 3 else ()
                over = {cell: 0 for cell in every}
                for cell in above:
                    rim = [merged(cell, at) for at in range(len(cell))]
                    rim = [one for one in rim if is_cell(ring, one)]
                    self.assertTrue(dimension > 0 or len(rim) == 2)
                    for one in rim:
                        over[one] += 1
                        self.assertEqual(hand_of(ring, one), hand_of(ring, cell))
                for cell in every:
                    self.assertEqual(over[cell], sum(2 ** len(lot) - 2 for lot in cell))

    def test_rings_with_one_book(self):
        one, other = Ring([3, 2, 2, 1, 1]), Ring([4, 3, 3, 2, 1])
        for dimension in range(3):
            self.assertEqual(cells(one, dimension), cells(other, dimension))

    def test_is_cell(self):
        for lengths in FEW[::2]:
            ring = Ring(lengths)
            for dimension in range(len(lengths) - 2):
                for cell in cells(ring, dimension)[:50]:
                    self.assertIs(is_cell(ring, cell), True)
                    self.assertIs(is_cell(ring, [list(lot) for lot in cell]), True)
                    self.assertIs(is_cell(ring, cell[1:] + cell[:1]), False)
        for value in NO_CELLS:
            self.assertIs(is_cell(self.small, value), False)

    def test_hands(self):
        for lengths in FEW:
            ring, three = Ring(lengths), long_three(lengths)
            for dimension in range(len(lengths) - 2):
                for cell in cells(ring, dimension)[::3]:
                    hand, mirrored = hand_of(ring, cell), mirrored_cell(ring, cell)
                    self.like(mirrored_cell(ring, [list(lot) for lot in mirrored]), cell)
                    self.assertIs(is_cell(ring, mirrored), True)
                    self.assertNotEqual(mirrored, cell)
                    self.like(mirrored, cell[:1] + cell[:0:-1])
                    self.like(hand_of(ring, mirrored), -hand)
                    self.like(hand, self.plain_hand(three, cell))

    def plain_hand(self, three, cell):
        if three is None:
            return 0
        order = [bar for lot in cell for bar in lot if bar in three]
        even = [three[at:] + three[:at] for at in range(3)]
        return 1 if tuple(order) in even else -1

    def test_three_bars(self):
        ring = Ring([3, 4, 5])
        both = tuple(((0,),) + tuple((bar,) for bar in rest) for rest in permutations((1, 2)))
        self.like([many_cells(ring), cells(ring, 0)], [(2,), both])
        self.like([hand_of(ring, cell) for cell in both], [1, -1])
        self.like(mirrored_cell(ring, both[0]), both[1])
        self.like(cells_with(ring, []), both)
        self.like(cells_with(ring, [1, 2]), ())

    def test_six_and_more_bars(self):
        ring = Ring([1, 1, 1, 1, 1, 2])
        self.assertEqual([len(cells(ring, dimension)) for dimension in range(4)], list(many_cells(ring)))
        self.assertEqual(len(cells_with(ring, (3,))), sum(many_cells(ring)))
        self.assertEqual(many_cells(Ring([2] + [1] * 7))[-1], factorial(7))
        self.assertEqual(many_cells(Ring([1] * 7))[-1], factorial(6))

    def test_wrong_rings(self):
        calls = ((is_cell, (None,)), (cells, (None,)), (many_cells, ()), (cells_with, (None,)),
                 (hand_of, (None,)), (mirrored_cell, (None,)))
        for call, more in calls:
            for value in ODD:
                self.raises(BadRing("ring"), call, value, *more)
            for lengths in OPEN:
                self.raises(TooLong(lengths.index(max(lengths))), call, Ring(lengths), *more)
            for lengths in UNCLEAR:
                ring = Ring(lengths)
                self.raises(Level(level_lots(ring)[0]), call, ring, *more)

    def test_wrong_parts(self):
        small, seven = self.small, Ring([1] * 7)
        for value in NO_CELLS:
            self.raises(BadCell("cell"), hand_of, small, value)
            self.raises(BadCell("cell"), mirrored_cell, small, value)
        for value in NO_INTEGERS + (-1, 2, HUGE):
            self.raises(BadNumber("dimension"), cells, small, value)
        for value in NO_INTEGERS + (-1, 5, HUGE):
            self.raises(BadNumber("dimension"), cells, seven, value)
        for value in (None, True, 1, "12", {}, [True], [None], [[1]], ["1"], (1, (2,))):
            self.raises(BadLot("lot"), cells_with, small, value)
            self.raises(BadLot("lot"), cells_with, seven, value)
        self.raises(NoBar(4), cells_with, small, [1, 1, 4, -1])
        self.raises(Twice(1), cells_with, small, (1, 2, 1))
        self.raises(Twice(1), cells_with, seven, (1, 2, 1))
        self.raises(TooMany("bars", 6), cells_with, seven, [])
        self.raises(TooMany("bars", 6), cells, seven, 4)


if __name__ == "__main__":
    unittest.main()

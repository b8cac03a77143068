"""ringbars.walls: the lengths of the last bar at which some lot is level."""

import unittest
from itertools import product

from ringbars.errors import BadNumber, BadRing
from ringbars.lots import level_lots
from ringbars.rings import Ring
from ringbars.walls import wall_lots, walls
from tests.common import HUGE, NO_INTEGERS, ODD, Case
from tests.plain import lots_by

TOLD = ([1, 1], [1, 2], [5, 5], [1, 1, 1], [5, 1, 1], [2, 3, 7], [1, 1, 1, 1], [4, 2, 2, 1], [9, 1, 2, 3],
        [1, 2, 4, 8], [3, 3, 3, 2, 2], [1, 1, 1, 1, 1], [1, 2, 3, 4, 5, 6], [7, 7, 7, 7, 7, 7, 7])
NO_LENGTHS = ODD + ([1], [1] * 8, [1, 0], [1, -1], [1, 1000001], [1, True], [1, "1"], [1, None], [[1], [2]],
                    (1, 1, 1, HUGE), {1: 1, 2: 2}, "11", Ring([1, 1, 1]))


def fits_all(lengths, wall):
    """The level lots with the last bar if it is as long as the wall."""
    last = len(lengths)
    return [lot for lot in lots_by(list(lengths) + [wall], "level") if last in lot]


class WallsTest(Case):

    def test_examples(self):
        told = [walls([1, 1, 1, 1]), wall_lots([1, 1, 1, 1], 2), walls([5, 1, 1]), wall_lots([5, 1, 1], 5)]
        self.like(told, [(2, 4), ((0, 4), (1, 4), (2, 4), (3, 4)), (3, 5, 7), ((1, 3), (2, 3))])

    def test_all_lengths(self):
        for lengths in TOLD:
            right = [wall for wall in range(1, sum(lengths) + 3) if fits_all(lengths, wall)]
            self.like(walls(lengths), tuple(right))
            self.like(walls(tuple(lengths)), tuple(right))
            for wall in right:
                self.like(wall_lots(tuple(lengths), wall), tuple(fits_all(lengths, wall)))
                lots = level_lots(Ring(list(lengths) + [wall]))
                self.assertEqual(set(wall_lots(lengths, wall)),
                                 {lot for lot in lots if len(lengths) in lot})

    def test_signs(self):
        for lengths in TOLD:
            sums = {sum(sign * length for sign, length in zip(signs, lengths))
                    for signs in product((1, -1), repeat=len(lengths))}
            self.like(walls(lengths), tuple(sorted(one for one in sums if one > 0)))
            self.assertEqual(len({wall % 2 for wall in walls(lengths)}), 1)
            self.assertEqual(walls(lengths)[-1], sum(lengths))
            self.like(wall_lots(lengths, sum(lengths)), ((len(lengths),),))

    def test_long_lengths(self):
        lengths = [1000000, 999999, 999983, 7, 123456, 3, 99999]
        self.assertEqual(len(walls(lengths)), 64)
        self.assertEqual(walls(lengths)[-1], sum(lengths))
        self.like(wall_lots(lengths, sum(lengths)), ((7,),))
        self.like(walls([1000000] * 7), (1000000, 3000000, 5000000, 7000000))
        self.assertEqual(len(wall_lots([1000000] * 7, 1000000)), 35)
        self.like(walls([1, 1000000]), (999999, 1000001))
        self.like(wall_lots([1, 1000000], 999999), ((0, 2),))

    def test_two_and_seven(self):
        self.like(walls([1, 1]), (2,))
        self.like(wall_lots([1, 1], 2), ((2,),))
        self.like(walls([1] * 7), (1, 3, 5, 7))

    def test_wrong(self):
        for value in NO_LENGTHS:
            if value not in ([3, 2, 2], (1, 2)):
                self.raises(BadRing("lengths"), walls, value)
                self.raises(BadRing("lengths"), wall_lots, value, None)
        for value in NO_INTEGERS + (-2, 0, 1, 3, 5, 6, HUGE, -HUGE, (2,), [2], "2"):
            self.raises(BadNumber("wall"), wall_lots, [1, 1, 1, 1], value)
        self.raises(BadNumber("wall"), wall_lots, [1, 2], True)
        self.like(wall_lots([1, 2], 1), ((0, 2),))

    def test_what_is_passed_stays(self):
        lengths = [5, 1, 1]
        walls(lengths)
        wall_lots(lengths, 5)
        self.assertEqual(lengths, [5, 1, 1])


if __name__ == "__main__":
    unittest.main()

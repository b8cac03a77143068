"""ringbars.linear: sums of unknowns, in integers alone."""

import unittest
from fractions import Fraction
from itertools import product

from ringbars.linear import determinant, solved
from tests.common import Case
from tests.polys import determinant as plain_determinant


class LinearTest(Case):

    def test_all_of_two_rows(self):
        for row in product((-2, -1, 0, 1, 3), repeat=4):
            first, second = [*row[:2], 5], [*row[2:], -7]
            self.check([first, second])

    def test_some_of_three_rows(self):
        for numbers in list(product((-1, 0, 2), repeat=9))[::7]:
            self.check([[*numbers[at:at + 3], at + 1] for at in (0, 3, 6)])

    def check(self, rows):
        right = plain_determinant([row[:-1] for row in rows])
        self.like(determinant([row[:-1] for row in rows]), int(right))
        told = solved(rows)
        if right == 0:
            self.assertIsNone(told)
            return
        numbers, by = told
        self.assertGreater(by, 0)
        for row in rows:
            self.assertEqual(sum(count * Fraction(one, by) for count, one in zip(row, numbers)), row[-1])

    def test_rows_stay(self):
        rows = [[0, 1, 2], [3, 4, 5]]
        solved(rows)
        self.assertEqual(rows, [[0, 1, 2], [3, 4, 5]])


if __name__ == "__main__":
    unittest.main()

"""ringbars.checks: questions about any values."""

import unittest
from math import gcd

from ringbars.checks import are_positive, first_twice, is_exactly, is_integer, is_lot, is_name
from ringbars.checks import is_numbers, is_within, lowest
from tests.common import HUGE, NO_INTEGERS, ODD, Case


class ChecksTest(Case):

    def test_examples(self):
        told = [is_integer(True), is_within(3, None, 3), is_name("a1"), is_name("1a"),
                is_numbers((1, True)), is_lot([0, 2]), is_lot((2, 0)), is_lot([]),
                first_twice(["b", "a", "b"]), lowest(6, -4), lowest(0, 5)]
        self.like(told, [False, True, True, False, False, True, False, True, "b", (-3, 2), (0, 1)])

    def test_integers(self):
        for value in (0, 1, -1, HUGE, -HUGE):
            self.assertIs(is_integer(value), True)
        for value in NO_INTEGERS:
            self.assertIs(is_integer(value), False)
            self.assertIs(is_within(value, None, None), False)
            self.assertIs(is_within(value, 0, 5), False)

    def test_within(self):
        for value in range(-3, 4):
            self.assertIs(is_within(value, -1, 2), -1 <= value <= 2)
            self.assertIs(is_within(value, None, 2), value <= 2)
            self.assertIs(is_within(value, -1, None), -1 <= value)
            self.assertIs(is_within(value, None, None), True)
        self.assertIs(is_within(2, 3, 1), False)

    def test_names(self):
        for name in ("a", "z9", "abcdefghijkl", "a00000000000"):
            self.assertIs(is_name(name), True)
        for name in ("", "abcdefghijklm", "A", "aB", "0", "9a", "a b", "a_", "-a", "a\n", " a",
                     "\u00e4", "a\u0661", "a\u00b2"):
            self.assertIs(is_name(name), False)
        for value in ODD:
            self.assertIs(is_name(value), value == "a")

    def test_numbers(self):
        for value in ([], (), [0], (-1, 5), [HUGE]):
            self.assertIs(is_numbers(value), True)
        for value in (None, 1, "12", {}, {1: 2}, [None], ["1"], [[1]], (False,), range(3), b"a"):
            self.assertIs(is_numbers(value), False)

    def test_lots(self):
        for value in ([], (), [0], (0, 1, 7), [5, HUGE]):
            self.assertIs(is_lot(value), True)
        for value in (None, "01", [-1], [0, 0], (1, 0), [0, 2, 1], [True], [0, True], [[0]], {},
                      [None], 3):
            self.assertIs(is_lot(value), False)

    def test_positive(self):
        for value in ([], (), [1], (3, 2, 2), [HUGE, 1]):
            self.assertIs(are_positive(value), True)
        for value in (None, 1, "12", [0], [1, -1], [True], [1, None], {1: 1}, [[1]]):
            self.assertIs(are_positive(value), False)

    def test_first_twice(self):
        self.like(first_twice([]), None)
        self.like(first_twice((1, 2, 3)), None)
        self.like(first_twice([1, 2, 3, 2, 1]), 2)
        self.like(first_twice([0, 0, 0]), 0)
        self.like(first_twice(["a", "b", "c", "c", "a"]), "c")
        self.like(first_twice([(0, 1), (1, 0), (0, 1)]), (0, 1))
        self.like(first_twice([(0, (1, "a")), [0, [1, "a"]]]), (0, (1, "a")))

    def test_lowest(self):
        for number in range(-12, 13):
            for by in list(range(-12, 0)) + list(range(1, 13)):
                low, under = lowest(number, by)
                self.assertGreater(under, 0)
                self.assertEqual(gcd(low, under), 1)
                self.assertEqual(low * by, number * under)
        self.like(lowest(0, -7), (0, 1))
        self.like(lowest(HUGE, -HUGE), (-1, 1))
        self.like(lowest(10, 5), (2, 1))

    def test_exactly(self):
        right = (1, (0, None), ())
        self.assertIs(is_exactly((1, (0, None), ()), right), True)
        for value in ((2, (0, None), ()), (True, (0, None), ()), (1, (False, None), ()), (1, (0, 0), ()),
                      (1, (0, None)), (1, [0, None], ()), (1, (0, None), (0,)), 1, None, ("1", (0, None), ())):
            self.assertIs(is_exactly(value, right), False)


if __name__ == "__main__":
    unittest.main()

"""What the tests share: how errors are compared, odd values, some rings."""

import unittest

from ringbars.errors import RingError

HUGE = 10 ** 5000


class Odd:
    """A value of a class that the package does not know."""


ODD = (None, True, False, 0, -1, 7, HUGE, "", "a", "3 2 2", b"a", [], (), [3, 2, 2], (1, 2),
       [[0, 1], [2]], [None], [True], ["a"], [-1], [[[]]], {}, {0: 1}, Odd())

# Odd values that are no integers at all.
NO_INTEGERS = (None, True, False, "", "1", b"1", [], [1], (1,), {}, Odd())

# Rings that close, by what they are.
CLEAR = ([3, 4, 5], [1, 1, 1], [2, 2, 3], [2, 1, 1, 1], [2, 2, 2, 1], [3, 3, 3, 2],
         [3, 2, 2, 1, 1], [2, 2, 1, 1, 1], [1, 1, 1, 1, 1], [4, 4, 4, 1, 1], [4, 1, 4, 1, 3],
         [2, 1, 2, 2, 1, 1], [1, 3, 3, 1, 3, 2], [1, 1, 1, 1, 1, 2],
         [1, 2, 3, 4, 5, 6, 2], [1, 1, 1, 1, 1, 1, 1], [5, 1, 1, 5, 1, 5, 1],
         [2, 1, 1, 1, 1, 1, 1, 1], [9, 1, 1, 9, 1, 1, 9, 2])
UNCLEAR = ([1, 1, 2], [3, 2, 1], [1, 1, 1, 1], [3, 1, 1, 1], [2, 1, 2, 1], [2, 2, 1, 1, 2],
           [4, 1, 1, 1, 1], [2, 2, 2, 2, 2, 2], [5, 1, 1, 1, 1, 1], [1, 2, 3, 4, 5, 6, 7],
           [1, 1, 1, 1, 1, 1, 1, 1], [7, 1, 1, 1, 1, 1, 1, 1])
OPEN = ([1, 1, 3], [5, 1, 1], [1, 5, 1, 1], [1, 1, 1, 9, 1], [1, 1, 1, 1, 1, 9],
        [1, 1, 1, 1, 1, 1, 8], [10, 1, 1, 1, 1, 1, 1, 1])
CLOSED = CLEAR + UNCLEAR
EVERY = CLOSED + OPEN


def is_like(one, other):
    """Whether two values are equal, and of equal classes all the way in."""
    if type(one) is not type(other):
        return False
    if isinstance(one, (list, tuple)):
        return len(one) == len(other) and all(map(is_like, one, other))
    return one is other or one == other


def stranger(value):
    """A value that looks like this one, but is of a class that only has its name."""
    return type(type(value).__name__, (), dict(vars(value)))()


class Case(unittest.TestCase):
    """A test case that compares errors with their fields."""

    def raises(self, right, call, *args, **more):
        """The call raises an error of just this class, with just these fields."""
        with self.assertRaises(RingError) as caught:
            call(*args, **more)
        error = caught.exception
        self.assertIs(type(error), type(right))
        told, expected = vars(error), vars(right)
        self.assertEqual(list(told), list(expected))
        for name in expected:
            self.assertTrue(is_like(told[name], expected[name]), (name, type(error)))

    def like(self, one, other):
        """The values are equal, lists being no tuples, and True no 1."""
        if not is_like(one, other):
            self.fail(f"{one!r} is not {other!r}")

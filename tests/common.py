"""What the tests share: how errors are compared, odd values, some rings."""

import unittest

from ringbars.errors import BadRing, Level, RingError, TooLong
from ringbars.lots import level_lots
from ringbars.papers import Denial, Paper, fixed
from ringbars.rings import Ring

HUGE = 10 ** 5000


class Odd:
    """A value of a class that the package does not know."""


ODD = (None, True, False, 0, -1, 7, HUGE, "", "a", "3 2 2", b"a", [], (), [3, 2, 2], (1, 2),
       [[0, 1], [2]], [None], [True], ["a"], [-1], [[[]]], {}, {0: 1}, Odd())

# Odd values that are no integers at all.
NO_INTEGERS = (None, True, False, "", "1", b"1", [], [1], (1,), {}, Odd())

# Rings that close, by what they are.
CLEAR = ([3, 4, 5], [1, 1, 1], [2, 2, 3], [2, 1, 1, 1], [2, 2, 2, 1], [3, 3, 3, 2],
         [3, 2, 2, 1, 1], [2, 2, 1, 1, 1], [1, 1, 1, 1, 1], [4, 4, 4, 1, 1], [4, 1, 4, 1, 3],
         [2, 1, 2, 2, 1, 1], [1, 3, 3, 1, 3, 2], [1, 1, 1, 1, 1, 2],
         [1, 2, 3, 4, 5, 6, 2], [1, 1, 1, 1, 1, 1, 1], [5, 1, 1, 5, 1, 5, 1],
         [2, 1, 1, 1, 1, 1, 1, 1], [9, 1, 1, 9, 1, 1, 9, 2])
UNCLEAR = ([1, 1, 2], [3, 2, 1], [1, 1, 1, 1], [3, 1, 1, 1], [2, 1, 2, 1], [2, 2, 1, 1, 2],
           [4, 1, 1, 1, 1], [2, 2, 2, 2, 2, 2], [5, 1, 1, 1, 1, 1], [1, 2, 3, 4, 5, 6, 7],
           [1, 1, 1, 1, 1, 1, 1, 1], [7, 1, 1, 1, 1, 1, 1, 1])
OPEN = ([1, 1, 3], [5, 1, 1], [1, 5, 1, 1], [1, 1, 1, 9, 1], [1, 1, 1, 1, 1, 9],
        [1, 1, 1, 1, 1, 1, 8], [10, 1, 1, 1, 1, 1, 1, 1])
CLOSED = CLEAR + UNCLEAR
EVERY = CLOSED + OPEN


def is_like(one, other):
    """Whether two values are equal, and of equal classes all the way in."""
    if type(one) is not type(other):
        return False
    if isinstance(one, (list, tuple)):
        return len(one) == len(other) and all(map(is_like, one, other))
    return one is other or one == other


def stranger(value):
    """A value that looks like this one, but is of a class that only has its name."""
    return type(type(value).__name__, (), dict(vars(value)))()


def bent(value):
    """Values that differ in one place from this one of nested tuples and numbers."""
    if isinstance(value, tuple):
        for at, one in enumerate(value):
            for other in bent(one):
                yield value[:at] + (other,) + value[at + 1:]
            yield value[:at] + value[at + 1:]
            yield value[:at] + (one,) + value[at:]
        for at in range(len(value) - 1):
            if not is_like(value[at], value[at + 1]):
                yield value[:at] + (value[at + 1], value[at]) + value[at + 2:]
        yield value + (None,)
    elif isinstance(value, int):
        yield from (value + 1, value - 1, None, str(value), (value,))
        if value in (0, 1):
            yield value == 1
    if value is not None:
        yield None
    yield ((7,),)


def bent_papers(paper):
    """Papers of its class that differ from this one in one place of their parts."""
    kind = type(paper)
    for at, part in enumerate(paper.parts):
        for other in bent(part):
            yield kind(*paper.parts[:at], other, *paper.parts[at + 1:])


def bent_items(items, others):
    """Rows of items with one left out, doubled, exchanged, or put in, or cut off; none is without items."""
    for at in range(len(items) + 1):
        yield items[:at] + items[at + 1:] or [""]
        yield items[:at] or [""]
        yield items[:at] + items[at:at + 1] + items[at:]
        for other in others:
            yield items[:at] + other.split(" ") + items[at + 1:]
            yield items[:at] + other.split(" ") + items[at:]


def unlike_papers(paper, others=()):
    """Values of other classes that have the word and the parts of a paper."""
    kind = type(paper)
    yield from (Paper(paper.word, *paper.parts), Denial(paper.word, *paper.parts), paper.parts, kind)
    yield from (type("Below", (kind,), {})(*paper.parts), stranger(paper), paper.parts[0])
    for other in others:
        if other is not kind:
            yield other(*paper.parts)


def as_lists(value):
    """The value with each tuple in it as a list."""
    if isinstance(value, (list, tuple)):
        return [as_lists(one) for one in value]
    return value


class Case(unittest.TestCase):
    """A test case that compares errors with their fields."""

    def raises(self, right, call, *args, **more):
        """The call raises an error of just this class, with just these fields."""
        with self.assertRaises(RingError) as caught:
            call(*args, **more)
        error = caught.exception
        self.assertIs(type(error), type(right))
        told, expected = vars(error), vars(right)
        self.assertEqual(list(told), list(expected))
        for name in expected:
            self.assertTrue(is_like(told[name], expected[name]), (name, type(error)))

    def wrong_rings(self, call, *more, name="ring"):
        """The call raises the errors of rings that close and are clear ahead of all others."""
        for value in ODD:
            self.raises(BadRing(name), call, value, *more)
        for lengths in OPEN:
            self.raises(TooLong(lengths.index(max(lengths))), call, Ring(lengths), *more)
        for lengths in UNCLEAR:
            ring = Ring(lengths)
            self.raises(Level(level_lots(ring)[0]), call, ring, *more)

    def only_right(self, shows, paper, others=()):
        """The paper is right, also with lists; bent ones, and what looks like it, are not."""
        self.assertIs(shows(paper), True)
        self.assertIs(shows(type(paper)(*as_lists(paper.parts))), True)
        for value in bent_papers(paper):
            self.assertIs(shows(value), False, value.parts)
        self.no_papers(shows, paper, others)

    def no_papers(self, shows, paper, others=()):
        """What looks like a paper is not right, nor are odd values, or papers of these."""
        for value in ODD + tuple(unlike_papers(paper, others)):
            self.assertIs(shows(value), False, value)
        for value in ODD:
            if fixed(value) != paper.parts[0]:
                self.assertIs(shows(type(paper)(*([value] * len(paper.parts)))), False, value)

    def like(self, one, other):
        """The values are equal, lists being no tuples, and True no 1."""
        if not is_like(one, other):
            self.fail(f"{one!r} is not {other!r}")

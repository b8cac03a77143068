"""ringbars.slack: how much lengths may change while the book stays."""

import unittest
from fractions import Fraction
from itertools import combinations, product

from ringbars.alikes import same_book
from ringbars.errors import BadRing, Level, Misfit, NoBar
from ringbars.lots import level_lots
from ringbars.rings import Ring
from ringbars.slack import Ease, Passings, Slack, ease, passings, slack
from tests.common import CLEAR, HUGE, NO_INTEGERS, ODD, OPEN, UNCLEAR, Case
from tests.plain import lots_by, sort_of, subsets

OPEN_CLEAR = [lengths for lengths in OPEN if Ring(lengths).is_clear]
RINGS = [lengths for lengths in CLEAR if max(lengths) < 9] + OPEN_CLEAR + [[5, 5, 3], [9, 1, 1], [40, 40, 40, 10, 10]]


def book(lengths):
    """The short lots."""
    return lots_by(lengths, "short")


def with_bar(lengths, bar, length):
    """The lengths with that of one bar another one."""
    return list(lengths[:bar]) + [length] + list(lengths[bar + 1:])


def stays(lengths, others):
    """Whether other lengths have the book of these, and no level lot."""
    return book(lengths) == book(others) and not lots_by(others, "level")


def least_gap(lengths):
    """The least gap of a lot."""
    return min(abs(2 * sum(lengths[bar] for bar in lot) - sum(lengths)) for lot in subsets(len(lengths)))


class SlackTest(Case):

    def test_examples(self):
        wide = Ring([40, 40, 40, 10, 10])
        self.like([slack(wide, 0).parts[:2], slack(wide, 3).parts[:2], ease(wide).by,
                   slack(Ring([9, 1, 1]), 0).parts], [(19, 19), (9, 19), 3, (6, None, (0,), None)])
        self.like(passings(Ring([4, 4, 4, 1, 1]), Ring([3, 2, 2, 1, 1])).rows, (((2, 3), ((0, 3, 4),)),))
        self.like(passings(Ring([1, 1, 1, 1, 1]), Ring([1, 1, 1, 1, 3])).rows[0][0], (1, 2))

    def test_slack_step_by_step(self):
        for lengths in RINGS:
            for bar, length in enumerate(lengths):
                paper = slack(Ring(lengths), bar)
                self.assertIs(type(paper), Slack)
                down = 0
                while length - down > 1 and stays(lengths, with_bar(lengths, bar, length - down - 1)):
                    down += 1
                up = 0
                while up < 2 * sum(lengths) and stays(lengths, with_bar(lengths, bar, length + up + 1)):
                    up += 1
                self.like(paper.parts[:2], (down, None if up == 2 * sum(lengths) else up))
                self.check_lots(lengths, bar, paper)

    def check_lots(self, lengths, bar, paper):
        if paper.low_lot is None:
            self.assertEqual(paper.down, lengths[bar] - 1)
        else:
            self.assertIn(bar, paper.low_lot)
            self.assertEqual(sort_of(lengths, paper.low_lot), "long")
            less = with_bar(lengths, bar, lengths[bar] - paper.down - 1)
            self.assertNotEqual(sort_of(less, paper.low_lot), "long")
        if paper.up is None:
            self.assertIsNone(paper.high_lot)
        else:
            self.assertIn(bar, paper.high_lot)
            self.assertEqual(sort_of(lengths, paper.high_lot), "short")
            more = with_bar(lengths, bar, lengths[bar] + paper.up + 1)
            self.assertNotEqual(sort_of(more, paper.high_lot), "short")

    def test_a_bar_that_cannot_be_shorter(self):
        self.like(slack(Ring([1, 1, 1]), 0).parts[:2], (0, 0))
        self.like(slack(Ring([5, 5, 1]), 2).parts[:2], (0, 8))
        self.like(slack(Ring([9, 9, 3]), 2).parts, (2, 14, slack(Ring([9, 9, 3]), 2).low_lot, (2,)))
        self.like(slack(Ring([9, 8, 2, 8]), 2).parts[::2], (1, None))
        self.like(slack(Ring([5, 1, 1]), 1).parts[:2], (0, 2))
        self.like(slack(Ring([5, 1, 1]), 0).parts, (2, None, (0,), None))

    def test_without_end(self):
        # A bar that is in no short lot can grow without end; any other one cannot.
        for lengths in RINGS:
            for bar in range(len(lengths)):
                ups = [lot for lot in book(lengths) if bar in lot]
                self.assertEqual(slack(Ring(lengths), bar).up is None, not ups)

    def test_ease(self):
        for lengths in RINGS:
            paper = ease(Ring(lengths))
            self.assertIs(type(paper), Ease)
            if len(lengths) <= 6:
                for changes in product((-paper.by, paper.by), repeat=len(lengths)):
                    self.assertTrue(stays(lengths, [sum(two) for two in zip(lengths, changes)]))
                more = [[sum(two) for two in zip(lengths, changes)]
                        for changes in product((-paper.by - 1, paper.by + 1), repeat=len(lengths))]
                self.assertFalse(all(min(others) > 0 and stays(lengths, others) for others in more))
            self.assertGreater(min(lengths), paper.by)
            if paper.lot is None:
                self.assertEqual(paper.by, min(lengths) - 1)
            else:
                inside = sum(lengths[bar] for bar in paper.lot)
                gap = abs(2 * inside - sum(lengths))
                self.assertLessEqual(gap, (paper.by + 1) * len(lengths))

    def test_ease_by_numbers(self):
        for lengths in [list(row) for row in product((5, 30, 41), repeat=4)] + [[90, 91, 100], [7, 90, 90]]:
            if Ring(lengths).is_clear:
                right = min((least_gap(lengths) - 1) // len(lengths), min(lengths) - 1)
                self.assertEqual(ease(Ring(lengths)).by, right)
        self.like(ease(Ring([7, 90, 90])).by, 2)
        self.like(ease(Ring([2, 90, 91, 100])).parts, (1, None))
        self.like(ease(Ring([7, 90, 90])).parts[0], 2)
        self.like(ease(Ring([1, 999999, 999999])).by, 0)

    def test_passings(self):
        few = [lengths for lengths in RINGS if len(lengths) < 7]
        for one, other in product(few, few):
            if len(one) == len(other):
                self.check_passings(one, other)

    def check_passings(self, one, other):
        paper = passings(Ring(one), Ring(other))
        self.assertIs(type(paper), Passings)
        rows = {}
        for lot in subsets(len(one)):
            first = sum(one) - 2 * sum(one[bar] for bar in lot)
            last = sum(other) - 2 * sum(other[bar] for bar in lot)
            if first > 0 > last:
                rows.setdefault(Fraction(first, first - last), []).append(lot)
        right = [((at.numerator, at.denominator), tuple(rows[at])) for at in sorted(rows)]
        self.like(paper.rows, tuple(right))
        self.assertEqual(paper.rows == (), same_book(Ring(one), Ring(other)))
        back = passings(Ring(other), Ring(one)).rows
        self.assertEqual([(by - number, by) for (number, by), _ in back[::-1]],
                         [fraction for fraction, _ in paper.rows])

    def test_passings_level_lots_between(self):
        one, other = [4, 4, 4, 1, 1], [1, 1, 1, 4, 4]
        for (number, by), lots in passings(Ring(one), Ring(other)).rows:
            between = [(by - number) * first + number * last for first, last in zip(one, other)]
            for lot in lots:
                self.assertEqual(sort_of(between, lot), "level")

    def test_eight_bars(self):
        one, other = Ring([9, 1, 1, 9, 1, 1, 9, 2]), Ring([2, 1, 1, 1, 1, 1, 1, 1])
        self.check_passings(one.lengths, other.lengths)
        self.assertEqual(slack(Ring([1000000] * 7), 0).parts[:2], (999999, 999999))
        self.assertEqual(ease(Ring([1000000] * 7)).by, 999999 // 7)

    def test_wrong(self):
        ring = Ring([3, 2, 2, 1, 1])
        for value in ODD:
            self.raises(BadRing("ring"), slack, value, None)
            self.raises(BadRing("ring"), ease, value)
            self.raises(BadRing("one"), passings, value, value)
            self.raises(BadRing("other"), passings, Ring([1, 1, 1, 1]), value)
        for value in NO_INTEGERS + (-1, 5, HUGE):
            self.raises(NoBar(value), slack, ring, value)
            if not isinstance(value, int) or isinstance(value, bool):
                self.raises(NoBar(value), slack, Ring([1, 1, 1, 1]), value)
        for lengths in UNCLEAR + ([4, 2, 1, 1], [9, 3, 3, 3]):
            level = Ring(lengths)
            lots = level_lots(level)
            if lots:
                self.raises(Level(lots[0]), slack, level, 0)
                self.raises(Level(lots[0]), ease, level)
        self.raises(Misfit("bars"), passings, Ring([1, 1, 1, 1]), ring)
        self.raises(Level((0, 1)), passings, Ring([1, 1, 1, 1]), Ring([3, 1, 1, 1]))
        self.raises(Level((0,)), passings, Ring([2, 1, 1, 1]), Ring([3, 1, 1, 1]))
        self.raises(Level((0, 1)), passings, Ring([1, 1, 1, 1]), Ring([2, 1, 1, 1]))

    def test_rings_need_not_close(self):
        for lengths in OPEN_CLEAR:
            ring = Ring(lengths)
            self.assertIs(type(slack(ring, 0)), Slack)
            self.assertIs(type(ease(ring)), Ease)
            self.assertEqual(passings(ring, ring).rows, ())

    def test_two_lots_at_one_fraction(self):
        rows = passings(Ring([1, 1, 1, 1, 1]), Ring([1, 1, 1, 1, 3])).rows
        self.assertEqual(len(rows), 1)
        self.assertEqual(rows[0][1], tuple((bar, 4) for bar in range(4)))
        self.assertEqual(sum(len(lots) for _, lots in rows), len(list(combinations(range(4), 1))))


if __name__ == "__main__":
    unittest.main()

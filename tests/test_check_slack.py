"""ringbars.check_slack: whether papers of changes, slack, ease and passings are right."""

import unittest
from itertools import product

from ringbars.check_slack import shows_change, shows_ease, shows_passings, shows_slack
from ringbars.errors import BadNumber, BadRing, Level, Misfit, NoBar, TooMany
from ringbars.growing import Change, change_at
from ringbars.lots import level_lots
from ringbars.rings import Ring
from ringbars.slack import Ease, Passings, Slack, ease, passings, slack
from ringbars.walls import walls
from tests.common import HUGE, NO_INTEGERS, ODD, UNCLEAR, Case, as_lists, bent_papers
from tests.plain import sort_of, subsets
from tests.test_slack import RINGS, with_bar
from tests.test_walls import NO_LENGTHS, TOLD


def right_lots(lengths, others, bar, sort):
    """The lots with a bar that are of this sort, but not with the other lengths."""
    return [lot for lot in subsets(len(lengths))
            if bar in lot and sort_of(lengths, lot) == sort and sort_of(others, lot) != sort]


def low_lots(lengths, bar, down):
    """What may stand as the low lot of a right Slack."""
    lots = right_lots(lengths, with_bar(lengths, bar, lengths[bar] - down - 1), bar, "long")
    return lots + ([None] if down == lengths[bar] - 1 else [])


def high_lots(lengths, bar, up):
    """What may stand as the high lot."""
    if up is None:
        return [None]
    return right_lots(lengths, with_bar(lengths, bar, lengths[bar] + up + 1), bar, "short")


class CheckSlackTest(Case):

    def setUp(self):
        self.wide = Ring([40, 40, 40, 10, 10])

    def test_examples(self):
        wide = self.wide
        self.like([shows_slack(wide, 0, Slack(19, 19, [0, 1], [0, 3, 4])),
                   shows_slack(wide, 0, Slack(19, 19, (0, 1, 3), (0, 3, 4))),
                   shows_ease(wide, Ease(3, (1, 2)))], [True, False, True])

    def test_changes(self):
        for lengths in TOLD:
            if len(lengths) < 5:
                for wall in walls(lengths):
                    paper = change_at(lengths, wall)
                    self.assertIs(shows_change(tuple(lengths), wall, paper), True)
                    self.assertIs(shows_change(lengths, wall, Change(*as_lists(paper.parts))), True)
                    for bad in bent_papers(paper):
                        self.assertIs(shows_change(lengths, wall, bad), False, bad.parts)
        paper = change_at([1, 1, 1, 1], 2)
        self.only_right(lambda value: shows_change([1, 1, 1, 1], 2, value), paper)
        self.assertIs(shows_change([1, 1, 1, 1], 4, paper), False)
        self.assertIs(shows_change([1, 1, 1, 1], 2, Change(paper.behind, paper.ahead)), False)

    def test_slack_with_all_lots(self):
        for lengths in RINGS:
            if len(lengths) > 5:
                continue
            ring, lots = Ring(lengths), subsets(len(lengths)) + [None]
            for bar in range(len(lengths)):
                paper = slack(ring, bar)
                self.assertIs(shows_slack(ring, bar, paper), True)
                down, up = paper.parts[:2]
                lows, highs = low_lots(lengths, bar, down), high_lots(lengths, bar, up)
                for lot in lots:
                    low, high = Slack(down, up, lot, paper.high_lot), Slack(down, up, paper.low_lot, lot)
                    self.assertIs(shows_slack(ring, bar, low), lot in lows)
                    self.assertIs(shows_slack(ring, bar, high), lot in highs)

    def test_bent_slack(self):
        for lengths in RINGS:
            if len(lengths) > 5:
                continue
            ring = Ring(lengths)
            for bar in range(len(lengths)):
                paper = slack(ring, bar)
                down, up = paper.parts[:2]
                lows, highs = low_lots(lengths, bar, down), high_lots(lengths, bar, up)
                for bad in bent_papers(paper):
                    right = (self.same(bad.parts[:2], (down, up)) and self.among(bad.low_lot, lows)
                             and self.among(bad.high_lot, highs))
                    self.assertIs(shows_slack(ring, bar, bad), right, bad.parts)

    def same(self, one, other):
        return repr(one) == repr(other)

    def among(self, value, lots):
        return any(self.same(value, lot) for lot in lots)

    def test_slack_papers_only(self):
        wide = self.wide
        self.no_papers(lambda value: shows_slack(wide, 0, value), slack(wide, 0))
        for bar in (1, 2, 3, 4):
            self.assertIs(shows_slack(wide, bar, slack(wide, 0)), False)
        open_end = Ring([9, 1, 1])
        self.assertIs(shows_slack(open_end, 0, Slack(6, None, (0,), None)), True)
        for high in ((0,), (), (0, 1), (0, 1, 2)):
            self.assertIs(shows_slack(open_end, 0, Slack(6, None, (0,), high)), False)
        for up in (0, 100, False):
            self.assertIs(shows_slack(open_end, 0, Slack(6, up, (0,), None)), False)
        self.assertIs(shows_slack(open_end, 0, Slack(6, None, None, None)), False)

    def test_either_is_right(self):
        # The bar of 1 can't be shorter; without it 0 and 1 are level with 2: so None is right, too.
        ring = Ring([1, 1, 1])
        for low in (None, (0, 1), (0, 2)):
            self.assertIs(shows_slack(ring, 0, Slack(0, 0, low, (0,))), True)
        self.assertIs(shows_slack(ring, 0, Slack(0, 0, (1, 2), (0,))), False)
        self.assertIs(shows_slack(ring, 0, Slack(False, 0, None, (0,))), False)
        self.assertIs(shows_slack(ring, 0, Slack(0, 0, None, None)), False)

    def test_ease_with_all_lots(self):
        for lengths in RINGS:
            ring = Ring(lengths)
            paper = ease(ring)
            self.assertIs(shows_ease(ring, paper), True)
            for lot in subsets(len(lengths)):
                gap = abs(2 * sum(lengths[bar] for bar in lot) - sum(lengths))
                right = gap <= (paper.by + 1) * len(lengths)
                self.assertIs(shows_ease(ring, Ease(paper.by, list(lot))), right)
            self.assertIs(shows_ease(ring, Ease(paper.by, None)), paper.by == min(lengths) - 1)
            for bad in bent_papers(paper):
                right = self.same(bad.by, paper.by) and (
                    self.among(bad.lot, [lot for lot in subsets(len(lengths)) if shows_ease(ring, Ease(paper.by, lot))])
                    or bad.lot is None and paper.by == min(lengths) - 1)
                self.assertIs(shows_ease(ring, bad), right, bad.parts)

    def test_ease_papers_only(self):
        wide = self.wide
        self.no_papers(lambda value: shows_ease(wide, value), ease(wide))
        for lot in ((2, 1), (1, 1, 2), (1, 5), (-1, 1), (True, 2), [1.0, 2], "12", ((1,), (2,)), (0, 1, 2, 3, 4)):
            self.assertIs(shows_ease(wide, Ease(3, lot)), False)
        ring = Ring([1, 1, 1])
        for lot in (None, (), (0, 1, 2), (0,), (1, 2)):
            self.assertIs(shows_ease(ring, Ease(0, lot)), True)
        self.assertIs(shows_ease(ring, Ease(False, None)), False)

    def test_passings(self):
        few = [lengths for lengths in RINGS if len(lengths) in (3, 5)]
        for one, other in product(few, few):
            if len(one) == len(other):
                paper = passings(Ring(one), Ring(other))
                self.assertIs(shows_passings(Ring(one), Ring(other), paper), True)
                for bad in list(bent_papers(paper))[::3]:
                    self.assertIs(shows_passings(Ring(one), Ring(other), bad), False, bad.parts)
        one, other = Ring([4, 4, 4, 1, 1]), Ring([1, 1, 1, 4, 4])
        self.only_right(lambda value: shows_passings(one, other, value), passings(one, other))

    def test_fractions_in_lowest_terms(self):
        one, other = Ring([1, 1, 1, 1, 1]), Ring([1, 1, 1, 1, 3])
        lots = ((0, 4), (1, 4), (2, 4), (3, 4))
        self.assertIs(shows_passings(one, other, Passings([((1, 2), lots)])), True)
        for rows in ([((2, 4), lots)], [((-1, -2), lots)], [((1, 2), lots[:3])], [((1, 2), lots[::-1])], [],
                     [((1, 2), lots[:2]), ((1, 2), lots[2:])], [((1, 2), lots + ((0, 1, 2),))]):
            self.assertIs(shows_passings(one, other, Passings(rows)), False)

    def test_wrong(self):
        ring = Ring([3, 2, 2, 1, 1])
        for value in NO_LENGTHS:
            if value not in ([3, 2, 2], (1, 2)):
                self.raises(BadRing("lengths"), shows_change, value, value, value)
        for value in NO_INTEGERS + (0, 1, 3, HUGE):
            self.raises(BadNumber("wall"), shows_change, [1, 1, 1, 1], value, value)
        self.raises(TooMany("bars", 6), shows_change, [1, 2, 3, 4, 5, 6], 21, None)
        self.raises(BadNumber("wall"), shows_change, [1, 2, 3, 4, 5, 6], 20, None)
        for value in ODD:
            self.raises(BadRing("ring"), shows_slack, value, value, value)
            self.raises(BadRing("ring"), shows_ease, value, value)
            self.raises(BadRing("one"), shows_passings, value, value, value)
            self.raises(BadRing("other"), shows_passings, ring, value, value)
        for value in NO_INTEGERS + (-1, 5, HUGE):
            self.raises(NoBar(value), shows_slack, ring, value, None)
        for lengths in UNCLEAR:
            level = Ring(lengths)
            lot = level_lots(level)[0]
            self.raises(Level(lot), shows_slack, level, 0, None)
            self.raises(Level(lot), shows_ease, level, None)
            self.raises(Level(lot), shows_passings, level, level, None)
        self.raises(Misfit("bars"), shows_passings, Ring([1, 1, 1, 1]), ring, None)


if __name__ == "__main__":
    unittest.main()

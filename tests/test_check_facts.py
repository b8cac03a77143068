"""ringbars.check_facts: whether papers about unknown bars are right."""

import unittest
from itertools import product

from ringbars.answers import Either, Keeps, Never, NoRing, Surely, judged, some_ring
from ringbars.asking import Known, Look, answers_left, best_look
from ringbars.check_facts import shows_judged, shows_look, shows_ring
from ringbars.errors import BadFact, BadLot, Misfit, NoBar, TooMany, Twice
from ringbars.facts import Fact, Facts, never_points, no_shorter, points
from tests.common import HUGE, ODD, Case, as_lists, bent_papers
from tests.plain import subsets
from tests.sayings import are_kept, closed_rows, contrary, do_bar, looks_from, looks_needed
from tests.test_answers import NO_FACTS, many_facts, mixed, plain, worded
from tests.test_asking import NONE, NO_LISTS, lots_of, word_facts

PAPERS = (Keeps, NoRing, Surely, Never, Known)


def keeps(many, facts, value):
    """Whether any value is a row of lengths that keeps facts."""
    return (isinstance(value, tuple) and len(value) == many and all(type(one) is int and one > 0 for one in value)
            and are_kept(facts, value))


def is_right(many, facts, one, paper):
    """Whether a paper of any class tells right what it tells of some facts, and of one more."""
    if type(paper) is Keeps:
        return keeps(many, facts, paper.lengths)
    if type(paper) is NoRing:
        return do_bar(many, facts, paper.weights)
    if type(paper) is Surely:
        return do_bar(many, facts, paper.weights, contrary(one))
    if type(paper) is Never:
        return do_bar(many, facts, paper.weights, one)
    return (keeps(many, facts + [one], paper.one) and keeps(many, facts, paper.other)
            and not are_kept([one], paper.other))


class ShowsRingTest(Case):

    def test_examples(self):
        bars = Facts(4, [no_shorter(4, 0, 1), no_shorter(4, 1, 2), no_shorter(4, 2, 3)])
        two = Facts(4, [never_points(4, (0, 1))])
        self.like([shows_judged(two, points(4, (0, 2)), Either([2, 2, 1, 2], [3, 1, 2, 1])),
                   shows_judged(two, points(4, (2, 3)), Surely([1, 0, 0, 0, 0, 1])),
                   shows_judged(two, points(4, (2, 3)), Surely([1, 0, 0, 0, 0, 0]))], [True, True, False])
        self.like([shows_look(bars, [(0, 1), (0, 2), (0, 3)], Look((0, 1), 2)), shows_ring(Facts(3), NoRing([0, 0, 0])),
                   shows_ring(bars, Keeps([7, 7, 7, 7])),
                   shows_ring(Facts(3, [Fact([1, -1, -1], True)]), NoRing([1, 1, 0, 0]))], [False, False, True, True])

    def test_what_some_ring_tells(self):
        for facts in many_facts():
            paper = some_ring(facts)
            self.assertIs(shows_ring(facts, paper), True)
            self.assertIs(shows_ring(facts, type(paper)(list(paper.parts[0]))), True)
            self.assertIs(shows_ring(facts, type(paper)([7 * one for one in paper.parts[0]])), True)

    def test_all_small_rows_and_weights(self):
        for many, some in ((3, [mixed(3, 4)]), (3, [mixed(3, 2), mixed(3, 6)]), (3, [Fact([1, -1, -1], True)]),
                           (3, [Fact([1, -2, -1])]), (3, []), (4, [Fact([3, -1, -1, -1], True)]), (4, []),
                           (3, [no_shorter(3, 0, 1), no_shorter(3, 1, 0).contrary().contrary(), never_points(3, (2,))])):
            facts = Facts(many, some)
            for row in product(range(4), repeat=many):
                self.assertIs(shows_ring(facts, Keeps(row)), keeps(many, plain(some), row))
            for weights in product(range(3), repeat=many + len(some)):
                self.assertIs(shows_ring(facts, NoRing(list(weights))), do_bar(many, plain(some), weights))

    def test_bent(self):
        found = []
        for facts in many_facts()[::2]:
            paper = some_ring(facts)
            for bad in bent_papers(paper):
                right = is_right(facts.many, plain(facts.facts), None, bad)
                self.assertIs(shows_ring(facts, bad), right, bad.parts)
                found.append(right)
            for other in PAPERS:
                if other is not type(paper):
                    right = is_right(facts.many, plain(facts.facts), None, other(paper.parts[0])) if other in (
                        Keeps, NoRing) else False
                    self.assertIs(shows_ring(facts, other(paper.parts[0])), right)
            if facts.many > 3:
                self.no_papers(lambda value: shows_ring(facts, value), paper)
        self.assertGreater(found.count(False), 500)
        self.assertGreater(found.count(True), 50)

    def test_rows_of_any_size(self):
        self.assertIs(shows_ring(Facts(3), Keeps([HUGE, HUGE, 2 * HUGE])), True)
        self.assertIs(shows_ring(Facts(3), Keeps([HUGE, HUGE, 2 * HUGE + 1])), False)
        self.assertIs(shows_ring(Facts(3, [Fact([1, -1, -1], True)]), NoRing([HUGE, HUGE, 0, 0])), True)
        for value in ODD:
            self.assertIs(shows_ring(Facts(3), Keeps(value)), value == [3, 2, 2])
            self.assertIs(shows_ring(Facts(3), NoRing(value)), False)

    def test_wrong(self):
        for value in NO_FACTS:
            self.raises(BadFact("facts"), shows_ring, value, value)


class ShowsJudgedTest(Case):

    def test_what_judged_tells(self):
        for at, facts in enumerate(many_facts()):
            if some_ring(facts):
                for fact in (mixed(facts.many, at), worded(facts.many, at), *facts.facts[:1]):
                    paper = judged(facts, fact)
                    self.assertIs(shows_judged(facts, fact, paper), True)
                    self.assertIs(shows_judged(facts, fact, type(paper)(*as_lists(paper.parts))), True)

    def test_all_small_weights(self):
        for facts, fact in ((Facts(3), points(3, [1])), (Facts(3), never_points(3, [1])), (Facts(3), Fact([0, 0, 0], True)),
                            (Facts(3, [no_shorter(3, 0, 1)]), no_shorter(3, 1, 0)), (Facts(3), Fact([0, 0, 0])),
                            (Facts(3, [Fact([1, -1, -1], True)]), no_shorter(3, 1, 0)), (Facts(4), points(4, (0, 1)))):
            told = plain(facts.facts)
            one = (fact.counts, fact.is_above)
            for weights in product(range(3), repeat=len(told) + facts.many + 1):
                self.assertIs(shows_judged(facts, fact, Surely(weights)),
                              do_bar(facts.many, told, weights, contrary(one)))
                self.assertIs(shows_judged(facts, fact, Never(list(weights))), do_bar(facts.many, told, weights, one))
            self.assertIs(shows_judged(facts, fact, Surely([0] * (len(told) + facts.many))), False)

    def test_all_small_rows(self):
        facts = Facts(3, [no_shorter(3, 0, 1)])
        for fact in (points(3, (0, 1)), no_shorter(3, 1, 0), Fact([0, 1, -1], True)):
            one = (fact.counts, fact.is_above)
            for first, second in product(product(range(4), repeat=3), closed_rows(3, 3)):
                right = is_right(3, plain(facts.facts), one, Either(first, second))
                self.assertIs(shows_judged(facts, fact, Either(first, second)), right)
                right = is_right(3, plain(facts.facts), one, Either(second, first))
                self.assertIs(shows_judged(facts, fact, Either(list(second), list(first))), right)

    def test_weights_of_which_the_last_one_is_for_none(self):
        found = 0
        for at, facts in enumerate(many_facts()):
            paper = some_ring(facts)
            if not paper:
                found += 1
                for fact in (mixed(facts.many, at), worded(facts.many, at)):
                    weights = list(paper.weights)
                    self.assertIs(shows_judged(facts, fact, Surely(weights + [0])), True)
                    self.assertIs(shows_judged(facts, fact, Never(weights + [0])), True)
                    self.assertIs(shows_judged(facts, fact, Surely(weights)), False)
                    self.assertIs(shows_judged(facts, fact, paper), False)
        self.assertGreater(found, 20)

    def test_bent(self):
        found = {}
        for at, facts in enumerate(many_facts()[::3]):
            fact = (worded if at % 2 else mixed)(facts.many, at + 2)
            if some_ring(facts):
                paper = judged(facts, fact)
                one = (fact.counts, fact.is_above)
                for bad in bent_papers(paper):
                    right = is_right(facts.many, plain(facts.facts), one, bad)
                    self.assertIs(shows_judged(facts, fact, bad), right, bad.parts)
                    found[paper.word, right] = found.get((paper.word, right), 0) + 1
                if paper.word == "either":
                    self.assertIs(shows_judged(facts, fact, Either(paper.other, paper.one)), False)
                self.no_papers(lambda value: shows_judged(facts, fact, value), paper)
        self.assertEqual(len(found), 6, found)

    def test_six_facts_and_one_more(self):
        facts = Facts(6, [no_shorter(6, bar, bar + 1) for bar in range(5)] + [never_points(6, (0, 4))])
        for lot in subsets(6):
            self.assertIs(shows_judged(facts, points(6, lot), judged(facts, points(6, lot))), True)

    def test_wrong(self):
        for value in NO_FACTS:
            self.raises(BadFact("facts"), shows_judged, value, value, value)
        for value in ODD + (Facts(3), "least 1 0 0", (1, 0, 0)):
            self.raises(BadFact("fact"), shows_judged, Facts(3), value, value)
            self.raises(BadFact("fact"), shows_judged, NONE, value, value)
        self.raises(Misfit("bars"), shows_judged, NONE, Fact([0] * 3), None)
        self.assertIs(shows_judged(NONE, Fact([0] * 4), None), False)


class ShowsLookTest(Case):

    def check(self, facts, lots):
        """All small Looks, and all rows of answers, are right or not as an own game tells."""
        rows = answers_left(facts, lots)
        least = looks_needed(rows)
        for looks in range(7):
            for lot in subsets(facts.many):
                right = len(rows) > 1 and looks == least and lot in lots and looks_from(rows, lots.index(lot)) == least
                self.assertIs(shows_look(facts, lots, Look(list(lot), looks)), right)
        for row in product((0, 1), repeat=len(lots)):
            self.assertIs(shows_look(facts, lots, Known(list(row))), rows == (row,))

    def test_all_looks(self):
        for many in (3, 4, 5):
            for at, facts in enumerate(list(word_facts(many))[::4]):
                self.check(facts, lots_of(many, at * 3 + 1))

    def test_what_best_look_tells(self):
        for many in range(3, 7):
            for at, facts in enumerate(word_facts(many)):
                lots = lots_of(many, 2 * at + 4)
                paper = best_look(facts, lots)
                self.assertIs(shows_look(facts, [list(lot[::-1]) for lot in lots], paper), True)

    def test_any_lot_that_is_enough(self):
        four = Facts(4)
        for lot in ((0, 1), (2, 3)):
            self.assertIs(shows_look(four, [(0, 1), (2, 3)], Look(lot, 2)), True)
            self.assertIs(shows_look(four, [(0, 1), (2, 3)], Look(lot[::-1], 2)), False)
            for looks in (0, 1, 3, True, None, "2", HUGE):
                self.assertIs(shows_look(four, [(0, 1), (2, 3)], Look(lot, looks)), False)
        # A look that tells nothing is one too many.
        self.assertIs(shows_look(four, [(0, 1), ()], Look((), 1)), False)
        self.assertIs(shows_look(four, [(0, 1), ()], Look((0, 1), 1)), True)
        self.assertIs(shows_look(four, [(0, 1), ()], Look((0, 1), True)), False)
        self.assertIs(shows_look(four, [(0, 1), ()], Look((0, 1), 2)), False)

    def test_bent(self):
        two = Facts(4, [never_points(4, (0, 1))])
        lots = [[2, 0], [1, 3], [3, 0]]
        paper = best_look(two, lots)
        for bad in bent_papers(paper):
            right = bad.looks is paper.looks and bad.lot in ((0, 2), (0, 3), (1, 3)) and all(
                type(bar) is int for bar in bad.lot)
            if right:
                rows = answers_left(two, lots)
                right = looks_from(rows, [(0, 2), (1, 3), (0, 3)].index(bad.lot)) == paper.looks
            self.assertIs(shows_look(two, lots, bad), right, bad.parts)
        self.no_papers(lambda value: shows_look(two, lots, value), paper)
        self.only_right(lambda value: shows_look(two, [[2, 3]], value), best_look(two, [[2, 3]]), (Keeps, NoRing))
        self.assertIs(shows_look(two, [[2, 3]], Known([True])), False)
        self.assertIs(shows_look(two, [[2, 3]], Look((2, 3), 0)), False)

    def test_facts_that_no_row_keeps(self):
        for value in (Look((0, 1), 1), Look((0,), 0), Known([1]), Known([0]), Known([]), None, some_ring(NONE)):
            self.assertIs(shows_look(NONE, [(0, 1)], value), False)

    def test_wrong(self):
        four = Facts(4)
        for value in NO_FACTS:
            self.raises(BadFact("facts"), shows_look, value, value, value)
        for value in NO_LISTS:
            self.raises(BadLot("lots"), shows_look, four, value, value)
            self.raises(BadLot("lots"), shows_look, NONE, value, value)
        self.raises(NoBar(4), shows_look, NONE, [[0], [1, 4, 4], [0, 0]], None)
        self.raises(Twice(1), shows_look, NONE, [[0], [1, 2, 1], [9]], None)
        self.raises(Twice((1, 2)), shows_look, NONE, [[0], [1, 2], [3], [2, 1], [0]], None)
        self.raises(TooMany("lots", 5), shows_look, NONE, [[0], [1], [2], [3], [0, 1], [0, 2]], None)


if __name__ == "__main__":
    unittest.main()

"""ringbars.asking: which facts tell all, and at which lots to look."""

import unittest
from itertools import combinations, permutations, product

from ringbars.answers import judged, some_ring
from ringbars.asking import Known, Look, answers_left, best_look, fewest_facts
from ringbars.errors import BadFact, BadLot, Impossible, NoBar, TooMany, Twice
from ringbars.facts import Fact, Facts, never_points, no_shorter, points
from tests.common import HUGE, ODD, Case
from tests.plain import subsets
from tests.sayings import answers, looks_from, looks_needed, rows_kept
from tests.test_answers import NO_FACTS, kept_by, many_facts, plain, worded

NO_LISTS = tuple(value for value in ODD if value not in ([], (), [[0, 1], [2]], [[[]]])) + (
    [], (), [[0], 1], [[0], None], [[0], "1"], [[True]], [[0, [1]]], "01")
NONE = Facts(4, [Fact([1, -1, -1, -1], True)])


def lots_of(many, number):
    """One to five unlike lots, told by a number."""
    every = subsets(many)
    found = []
    for at in range(1 + number % 5):
        lot = every[(number * 7 + at * (3 + number % 4)) % len(every)]
        if lot not in found:
            found.append(lot)
    return found


def word_facts(many):
    """Facts told by words about so many bars, each kept by some row."""
    rows = [[1] * many, list(range(2, many + 2)), [3, 2, 2, 1, 3, 2][:many]]
    for at in range(21):
        some = [worded(many, at * 13 + 3 * one) for one in range(at % 7)]
        yield Facts(many, kept_by(many, rows[at % 3], some))


class FewestFactsTest(Case):

    def test_examples(self):
        told = fewest_facts(Facts(3, [no_shorter(3, 0, 1), no_shorter(3, 1, 2), no_shorter(3, 0, 2)]))
        self.like(told, (0, 1))

    def first_by(self, facts, is_enough):
        """The first of the fewest facts that are enough, by all lots of facts."""
        numbers = range(len(facts.facts))
        for size in range(len(facts.facts) + 1):
            for lot in combinations(numbers, size):
                if is_enough([facts.facts[number] for number in lot]):
                    return lot
        raise AssertionError(facts)

    def test_by_rows_of_lengths(self):
        for many, most in ((3, 9), (4, 6)):
            for facts in word_facts(many):
                right = rows_kept(many, plain(facts.facts), most)
                told = self.first_by(facts, lambda some: rows_kept(many, plain(some), most) == right)
                self.like(fewest_facts(facts), told)

    def test_by_what_follows(self):
        for facts in many_facts():
            if some_ring(facts):
                told = self.first_by(facts, lambda some: all(
                    judged(Facts(facts.many, some), fact).word == "surely" for fact in facts.facts))
            else:
                told = self.first_by(facts, lambda some: not some_ring(Facts(facts.many, some)))
            self.like(fewest_facts(facts), told)

    def test_edges(self):
        for many in range(3, 7):
            self.like(fewest_facts(Facts(many)), ())
            # What each ring that closes keeps need not be told.
            self.like(fewest_facts(Facts(many, [points(many, (bar,)) for bar in range(many)][:6])), ())
            self.like(fewest_facts(Facts(many, [Fact([0] * many), no_shorter(many, 1, 0)] * 3)), (1,))
        fact = no_shorter(4, 2, 1)
        self.like(fewest_facts(Facts(4, [fact] * 6)), (0,))
        self.like(fewest_facts(Facts(4, [fact, fact.contrary()] * 3)), (0, 1))
        never = Fact([0, 0, 0, 0], True)
        self.like(fewest_facts(Facts(4, [fact, fact.contrary(), fact, never, never])), (3,))
        chain = [no_shorter(6, bar, bar + 1) for bar in range(5)]
        self.like(fewest_facts(Facts(6, [no_shorter(6, 0, 5)] + chain)), (1, 2, 3, 4, 5))

    def test_wrong(self):
        for value in NO_FACTS:
            self.raises(BadFact("facts"), fewest_facts, value)


class AnswersLeftTest(Case):

    def test_examples(self):
        bars = Facts(4, [no_shorter(4, 0, 1), no_shorter(4, 1, 2), no_shorter(4, 2, 3)])
        two = Facts(4, [never_points(4, (0, 1))])
        lots = [(0, 1), (0, 2), (0, 3)]
        self.like([answers_left(bars, lots), best_look(bars, lots).parts],
                  [((0, 0, 0), (0, 0, 1), (0, 1, 1), (1, 1, 1)), ((0, 2), 2)])
        self.like([best_look(two, [(2, 3)]).parts, best_look(two, [(0, 2), (1, 3)]).looks], [((1,),), 2])

    def test_by_rows_of_lengths(self):
        for many, most in ((3, 9), (4, 8), (5, 7)):
            for at, facts in enumerate(word_facts(many)):
                rows = rows_kept(many, plain(facts.facts), most)
                for number in (at, at + 4, 3 * at + 2):
                    lots = lots_of(many, number)
                    right = answers(many, rows, lots)
                    self.like(answers_left(facts, [list(lot[::-1]) for lot in lots]), right)

    def test_by_what_follows(self):
        for at, facts in enumerate(many_facts()[::2]):
            lots = lots_of(facts.many, at)
            if not some_ring(facts):
                self.raises(Impossible(some_ring(facts)), answers_left, facts, lots)
                continue
            asked = [points(facts.many, lot) for lot in lots]
            right = []
            for row in product((0, 1), repeat=len(lots)):
                now = facts.facts + tuple(fact if told else fact.contrary() for fact, told in zip(asked, row))
                if len(now) < 7:
                    right += [row] if some_ring(Facts(facts.many, now)) else []
            if len(facts.facts) + len(lots) < 7:
                self.like(answers_left(facts, lots), tuple(right))
            else:
                found = answers_left(facts, lots)
                for fact, column in zip(asked, zip(*found)):
                    word = {(0,): "never", (1,): "surely", (0, 1): "either"}[tuple(sorted(set(column)))]
                    self.assertEqual(judged(facts, fact).word, word)

    def test_one_lot_and_none_of_bars(self):
        three = Facts(3)
        self.like(answers_left(three, [[]]), ((1,),))
        self.like(answers_left(three, [[0, 1, 2]]), ((0,),))
        self.like(answers_left(three, [[2, 1]]), ((0,), (1,)))
        self.like(answers_left(three, [[1], [0, 2], []]), ((1, 0, 1), (1, 1, 1)))


class BestLookTest(Case):

    def check(self, facts, lots):
        rows = answers_left(facts, lots)
        paper = best_look(facts, [list(lot[::-1]) for lot in lots])
        self.assertEqual(paper, best_look(facts, lots))
        if len(rows) == 1:
            self.assertIs(type(paper), Known)
            self.like(paper.answers, rows[0])
            return 0
        self.assertIs(type(paper), Look)
        least = looks_needed(rows)
        self.like(paper.looks, least)
        self.like(paper.lot, [lot for at, lot in enumerate(lots) if looks_from(rows, at) == least][0])
        return least

    def test_all_kinds(self):
        found = set()
        for many in range(3, 7):
            for at, facts in enumerate(word_facts(many)):
                for number in (at, 2 * at + 4, 3 * at + 9):
                    found.add(self.check(facts, lots_of(many, number)))
        self.assertGreaterEqual(found, {0, 1, 2, 3, 4, 5})

    def test_lots_in_any_order(self):
        bars = Facts(4, [no_shorter(4, 0, 1), no_shorter(4, 1, 2), no_shorter(4, 2, 3)])
        for lots in permutations([(0, 1), (0, 2), (0, 3)]):
            self.check(bars, lots)
            self.like(best_look(bars, lots).parts, ((0, 2), 2))
        # Of lots that do alike the first one that is told is taken.
        self.like(best_look(Facts(4), [(2, 3), (0, 1)]).parts, ((2, 3), 2))
        self.like(best_look(Facts(4), [(0, 1), (2, 3)]).parts, ((0, 1), 2))

    def test_five_lots_of_six_bars(self):
        facts = Facts(6, [no_shorter(6, bar, bar + 1) for bar in range(5)])
        self.assertEqual(self.check(facts, [(0, 1), (0, 2), (0, 3), (0, 4), (0, 5)]), 3)
        self.check(Facts(6), [(0, 1, 2), (0, 1, 3), (2, 4, 5), (1, 3), (0, 5)])

    def test_wrong(self):
        four = Facts(4)
        for call in (answers_left, best_look):
            for value in NO_FACTS:
                self.raises(BadFact("facts"), call, value, value)
            for value in NO_LISTS:
                self.raises(BadLot("lots"), call, four, value)
                self.raises(BadLot("lots"), call, NONE, value)
            self.raises(NoBar(4), call, NONE, [[0], [1, 4, 4], [0, 0]])
            self.raises(NoBar(-1), call, NONE, [[0], [-1]])
            self.raises(NoBar(HUGE), call, four, [[HUGE]])
            self.raises(Twice(1), call, NONE, [[0], [1, 2, 1], [9]])
            self.raises(Twice((1, 2)), call, NONE, [[0], [1, 2], [3], [2, 1], [0]])
            self.raises(Twice(()), call, four, [[], []])
            self.raises(Twice((0,)), call, four, [[0], [1], [2], [3], [0, 1], [0]])
            self.raises(TooMany("lots", 5), call, NONE, [[0], [1], [2], [3], [0, 1], [0, 2]])
            self.raises(Impossible(some_ring(NONE)), call, NONE, [[0], [1], [2], [3], [0, 1]])

    def test_what_is_passed_stays(self):
        lots = [[2, 1], [3]]
        best_look(Facts(4), lots)
        answers_left(Facts(4), lots)
        self.assertEqual(lots, [[2, 1], [3]])


if __name__ == "__main__":
    unittest.main()

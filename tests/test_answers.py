"""ringbars.answers: whether a saying about unknown bars is sure, never, or open."""

import unittest
from itertools import product

from ringbars.answers import Either, Keeps, Never, NoRing, Surely, judged, some_ring
from ringbars.errors import BadFact, Impossible, Misfit
from ringbars.facts import Fact, Facts, arc_no_longer, never_points, no_shorter, points
from tests.common import ODD, Case
from tests.plain import subsets
from tests.sayings import are_kept, contrary, do_bar, is_kept, rows_kept

NO_FACTS = ODD + (Fact([1, 0, 0]), [Fact([1, 0, 0])], "least 1 0 0", (3, ()))


def plain(facts):
    """The facts as pairs."""
    return [(fact.counts, fact.is_above) for fact in facts]


def mixed(many, number):
    """A fact with counts of all kinds, told by a number."""
    counts = [(number * (bar + 3) + number // 7 * (bar * bar + 1) + bar) % 7 - 3 for bar in range(many)]
    return Fact(counts, number % 3 == 0)


def worded(many, number):
    """A fact told by words, by a number."""
    lots = subsets(many)
    one, other = number % many, (number // many + 1 + number % many) % many
    kinds = (points(many, lots[number % len(lots)]), never_points(many, lots[(number * 5) % len(lots)]),
             no_shorter(many, one, other if other != one else (one + 1) % many),
             arc_no_longer(many, (one, (one + 2) % many), ((one + 1) % many, (one + 1 + number % (many - 1)) % many
                           if (number % (many - 1)) else (one + 2) % many)))
    return kinds[number % 4]


def kept_by(many, lengths, facts):
    """The facts, each one turned to its contrary if lengths do not keep it."""
    return [fact if is_kept((fact.counts, fact.is_above), lengths) else fact.contrary() for fact in facts]


def many_facts():
    """Facts of all kinds about three to six bars: kept by some row, by two, by none."""
    found = []
    for many in range(3, 7):
        rows = [[1] * many, list(range(2, many + 2)), [3, 2, 2, 1, 4, 3][:many], [5, 5, 1, 1, 1, 2][:many]]
        for at in range(24):
            some = [(mixed if at % 2 else worded)(many, at * 11 + 3 * one) for one in range(at % 7)]
            found.append(Facts(many, some))
            found.append(Facts(many, kept_by(many, rows[at % 4], some)))
    return found


class SomeRingTest(Case):

    def check(self, facts):
        """The answer tells a row that keeps the facts, or weights that bar them; then no row does."""
        paper = some_ring(facts)
        rows = rows_kept(facts.many, plain(facts.facts), 4 if facts.many < 6 else 3)
        if paper:
            self.assertIs(type(paper), Keeps)
            self.assertEqual(len(paper.lengths), facts.many)
            self.assertTrue(all(type(length) is int and length > 0 for length in paper.lengths))
            self.assertTrue(are_kept(plain(facts.facts), paper.lengths))
        else:
            self.assertIs(type(paper), NoRing)
            self.assertTrue(do_bar(facts.many, plain(facts.facts), paper.weights))
            self.assertEqual(rows, [])
        self.assertEqual(paper, some_ring(facts))
        return bool(paper)

    def test_all_kinds(self):
        found = [self.check(facts) for facts in many_facts()]
        self.assertGreater(found.count(True), 50)
        self.assertGreater(found.count(False), 20)

    def test_all_facts_about_three_bars(self):
        for counts in product(range(-3, 4), repeat=3):
            for above in (False, True):
                self.check(Facts(3, [Fact(counts, above)]))

    def test_two_facts_against_one_another(self):
        for number in range(40):
            fact = mixed(5, number)
            self.assertFalse(self.check(Facts(5, [fact, fact.contrary()])))
            self.assertEqual(self.check(Facts(5, [fact, fact])), self.check(Facts(5, [fact])))

    def test_no_facts(self):
        for many in range(3, 7):
            self.assertTrue(self.check(Facts(many)))

    def test_just_one_shape_of_lengths(self):
        # 3 x 0 = x 1, 3 x 1 = x 2: just 1 3 9 and so on, which closes beside other bars alone.
        rows = [[3, -1, 0, 0], [-3, 1, 0, 0], [0, 3, -1, 0], [0, -3, 1, 0], [0, 0, 1, -1], [0, 0, -1, 1]]
        facts = Facts(4, [Fact(row) for row in rows])
        self.assertTrue(self.check(facts))
        self.assertEqual([length * 9 for length in some_ring(facts).lengths],
                         [some_ring(facts).lengths[2] * one for one in (1, 3, 9, 9)])
        chain = [[3, -1, 0, 0, 0, 0], [0, 3, -1, 0, 0, 0], [0, 0, 3, -1, 0, 0], [0, 0, 0, 3, -1, 0], [0, 0, 0, 0, 3, -1]]
        for signs in product((1, -1), repeat=5):
            told = [Fact([sign * count for count in row], sign > 0) for sign, row in zip(signs, chain)]
            self.check(Facts(6, told))

    def test_wrong(self):
        for value in NO_FACTS:
            self.raises(BadFact("facts"), some_ring, value)


class JudgedTest(Case):

    def test_examples(self):
        bars = Facts(4, [no_shorter(4, 0, 1), no_shorter(4, 1, 2), no_shorter(4, 2, 3)])
        two = Facts(4, [never_points(4, (0, 1))])
        self.like([judged(two, points(4, (2, 3))).word, judged(two, points(4, (0, 1))).word,
                   judged(two, points(4, (0, 2))).word], ["surely", "never", "either"])
        self.like([bool(some_ring(bars)), some_ring(Facts(3, [Fact([1, -1, -1], True)])).word,
                   judged(Facts(3), points(3, [1])).word], [True, "noring", "surely"])
        self.assertTrue(do_bar(3, [], [0, 1, 0, 1], contrary(((1, -1, 1), False))))

    def check(self, facts, fact):
        """The word of the answer, which is held against rows of lengths and weights added up."""
        some, one = plain(facts.facts), (fact.counts, fact.is_above)
        rows = rows_kept(facts.many, some, 4 if facts.many < 6 else 3)
        if not some_ring(facts):
            self.raises(Impossible(some_ring(facts)), judged, facts, fact)
            return "impossible"
        paper = judged(facts, fact)
        self.assertEqual(paper, judged(facts, fact))
        if isinstance(paper, Either):
            self.assertTrue(are_kept(some + [one], paper.one))
            self.assertTrue(are_kept(some + [contrary(one)], paper.other))
        elif isinstance(paper, Surely):
            self.assertTrue(do_bar(facts.many, some, paper.weights, contrary(one)))
            self.assertTrue(all(is_kept(one, row) for row in rows))
        else:
            self.assertIs(type(paper), Never)
            self.assertTrue(do_bar(facts.many, some, paper.weights, one))
            self.assertFalse(any(is_kept(one, row) for row in rows))
        return paper.word

    def test_all_kinds(self):
        found = {}
        for at, facts in enumerate(many_facts()):
            for fact in (mixed(facts.many, at), worded(facts.many, at), worded(facts.many, at + 1),
                         *facts.facts[:1], *[one.contrary() for one in facts.facts[1:2]]):
                word = self.check(facts, fact)
                found[word] = found.get(word, 0) + 1
        self.assertTrue(all(found[word] > 20 for word in ("surely", "never", "either", "impossible")), found)

    def test_answers_hang_together(self):
        turned = {"surely": "never", "never": "surely", "either": "either"}
        for facts in many_facts()[::3]:
            if some_ring(facts):
                fact = worded(facts.many, len(facts.facts) * 3 + 1)
                word = judged(facts, fact).word
                self.assertEqual(judged(facts, fact.contrary()).word, turned[word])

    def test_six_facts_and_one_more(self):
        facts = Facts(6, [no_shorter(6, bar, bar + 1) for bar in range(5)] + [never_points(6, (0, 4))])
        self.assertEqual(len(facts.facts), 6)
        for lot in subsets(6):
            self.check(facts, points(6, lot))
        self.assertEqual(judged(facts, points(6, (0, 5))).word, "either")
        self.assertEqual(judged(facts, points(6, (0, 1))).word, "never")
        self.assertEqual(judged(facts, points(6, (1, 2, 3, 5))).word, "surely")

    def test_paper_of_impossible_facts(self):
        for facts in many_facts():
            if not some_ring(facts):
                with self.assertRaises(Impossible) as caught:
                    judged(facts, worded(facts.many, 5))
                self.assertEqual(caught.exception.paper, some_ring(facts))
                self.assertTrue(do_bar(facts.many, plain(facts.facts), caught.exception.paper.weights))

    def test_wrong(self):
        three, none = Facts(3), Facts(3, [Fact([1, -1, -1], True)])
        for value in NO_FACTS:
            self.raises(BadFact("facts"), judged, value, value)
        for value in ODD + (three, "least 1 0 0", (1, 0, 0)):
            self.raises(BadFact("fact"), judged, three, value)
            self.raises(BadFact("fact"), judged, none, value)
        self.raises(Misfit("bars"), judged, three, Fact([0] * 4))
        self.raises(Misfit("bars"), judged, none, Fact([0] * 4))


if __name__ == "__main__":
    unittest.main()

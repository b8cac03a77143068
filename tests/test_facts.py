"""ringbars.facts: facts about unknown bars."""

import unittest
from itertools import permutations, product

from ringbars.errors import BadFact, BadLot, BadNumber, BadRing, BadText, Misfit, NoBar, NoCorner, TooMany, Twice
from ringbars.facts import Fact, Facts, arc_no_longer, never_points, no_shorter, points
from tests.common import HUGE, NO_INTEGERS, ODD, Case, bent_items
from tests.plain import arc, subsets
from tests.sayings import are_kept, is_kept, total
from tests.sayings import points as plain_points

NO_COUNTS = tuple(value for value in ODD if value != [3, 2, 2]) + (
    [1, 2], [0] * 7, [1, 2, 4], [1, 2, -4], [1, 2, True], [1, 2, None], [HUGE, 0, 0], "111", [[1], 2, 3], {1: 1, 2: 2, 3: 3})
NO_LENGTHS = tuple(value for value in ODD if value not in ([], (), [3, 2, 2], (1, 2))) + (
    [1, 2, 0], [1, 2, -1], [1, True, 2], [1, 2, None], "123", [1, 2, "3"])
NO_MANY = NO_INTEGERS + (-1, 0, 2, 7, HUGE)
FEW = [Fact(counts, above) for counts in ([1, -1, 0], [0, 0, 0], [-3, 3, 2], [1, 1, -1]) for above in (False, True)]


class FactTest(Case):

    def test_examples(self):
        bars = Facts(4, [no_shorter(4, 0, 1), no_shorter(4, 1, 2), no_shorter(4, 2, 3)])
        self.like([str(points(4, (0, 3))), str(never_points(4, (0, 3))), str(arc_no_longer(4, (3, 1), (1, 3))),
                   str(Fact([2, -1, 0], True).contrary())],
                  ["least -1 1 1 -1", "above 1 -1 -1 1", "least -1 1 1 -1", "least -2 1 0"])
        self.like([bars.keeps([4, 3, 2, 1]), bars.keeps([4, 1, 1, 1]), bars.facts[0].total([5, 3, 1, 1]),
                   Fact.read("above 0 0 1").keeps([1, 9, 1])], [True, False, 2, True])
        self.raises(BadText(0, 2), Fact.read, "least 1 -4 0")

    def test_methods_stand_in_the_classes(self):
        for name in ("__init__", "__eq__", "__str__", "contrary", "total", "keeps", "read"):
            self.assertIn(name, vars(Fact))
        for name in ("__init__", "__eq__", "keeps", "with_fact"):
            self.assertIn(name, vars(Facts))

    def test_attributes(self):
        for many in range(3, 7):
            counts = [(at * 5) % 7 - 3 for at in range(many)]
            for above in (False, True):
                fact = Fact(counts, above)
                self.like([fact.counts, fact.is_above], [tuple(counts), above])
                self.assertEqual(fact, Fact(tuple(counts), is_above=above))
        self.like(Fact([0, 0, 0]).is_above, False)
        counts = [1, 2, 3]
        fact = Fact(counts)
        counts[0] = 0
        self.like(fact.counts, (1, 2, 3))

    def test_wrong(self):
        for value in NO_COUNTS:
            self.raises(BadFact("counts"), Fact, value, value)
        for value in ODD:
            if value is not True and value is not False:
                self.raises(BadFact("is_above"), Fact, [1, 2, 3], value)

    def test_equality(self):
        for one, other in product(FEW, FEW):
            self.assertIs(one == other, one is other)
        self.assertEqual(Fact([1, 0, 0]), Fact((1, 0, 0), False))
        for other in ODD + ((1, -1, 0), "least 1 -1 0", Fact([1, -1, 0, 0]), Facts(3, [FEW[0]])):
            self.assertIs(FEW[0] == other, False)
            self.assertIs(other == FEW[0], False)

    def test_sums(self):
        for many in (3, 4, 5, 6):
            for at in range(7):
                counts = tuple((at + 3 * bar) % 7 - 3 for bar in range(many))
                for lengths in ([1] * many, list(range(1, many + 1)), [HUGE] + [1] * (many - 1), [9, 1, 1, 4, 2, 2][:many]):
                    for above in (False, True):
                        fact = Fact(counts, above)
                        self.like(fact.total(lengths), total(counts, lengths))
                        self.assertIs(fact.keeps(tuple(lengths)), is_kept((counts, above), lengths))
                        self.assertIs(fact.contrary().keeps(lengths), not fact.keeps(lengths))

    def test_contrary(self):
        for fact in FEW:
            told = fact.contrary()
            self.like([told.counts, told.is_above], [tuple(-count for count in fact.counts), not fact.is_above])
            self.assertEqual(told.contrary(), fact)

    def test_wrong_lengths(self):
        for fact in FEW:
            for call in (fact.total, fact.keeps):
                for value in NO_LENGTHS:
                    self.raises(BadRing("lengths"), call, value)
                for value in ([], (), (1, 2), [1, 2, 3, 4]):
                    self.raises(Misfit("bars"), call, value)

    def test_rings_need_not_close(self):
        self.assertIs(Fact([1, -1, -1]).keeps([9, 1, 1]), True)
        self.assertIs(Facts(3, [Fact([1, -1, -1])]).keeps([9, 1, 1]), False)


class WordsTest(Case):

    def test_points(self):
        for many in range(3, 7):
            for lot in subsets(many):
                counts, above = plain_points(many, lot)
                self.assertEqual(points(many, list(lot[::-1])), Fact(counts, above))
                self.assertEqual(never_points(many, lot), Fact([-count for count in counts], True))

    def test_no_shorter(self):
        for many in range(3, 7):
            for one, other in permutations(range(many), 2):
                counts = [0] * many
                counts[one], counts[other] = 1, -1
                self.assertEqual(no_shorter(many, one, other), Fact(counts))

    def test_arcs(self):
        for many in range(3, 7):
            pairs = list(permutations(range(many), 2))
            for one, other in list(product(pairs, pairs))[::1 if many < 6 else 3]:
                told = arc_no_longer(many, list(one), other)
                counts = [(bar in arc(many, *other)) - (bar in arc(many, *one)) for bar in range(many)]
                self.assertEqual(told, Fact(counts))
                self.assertTrue(all(type(count) is int for count in told.counts))

    def test_wrong_lots(self):
        for call in (points, never_points):
            for value in NO_MANY:
                self.raises(BadNumber("many"), call, value, value)
            for value in ODD:
                if value not in ([], (), [3, 2, 2], (1, 2), [-1]):
                    self.raises(BadLot("lot"), call, 4, value)
            self.raises(NoBar(4), call, 4, [0, 0, 4, 9])
            self.raises(NoBar(-1), call, 4, [-1])
            self.raises(NoBar(3), call, 3, (3,))
            self.raises(NoBar(HUGE), call, 6, [HUGE])
            self.raises(Twice(2), call, 4, [2, 0, 2, 0])

    def test_wrong_bars(self):
        for value in NO_MANY:
            self.raises(BadNumber("many"), no_shorter, value, value, value)
        for value in NO_INTEGERS + (-1, 4, HUGE):
            self.raises(NoBar(value), no_shorter, 4, value, value)
            self.raises(NoBar(value), no_shorter, 4, 0, value)
        self.raises(NoBar(9), no_shorter, 4, 9, 8)
        self.raises(Twice(3), no_shorter, 4, 3, 3)

    def test_wrong_arcs(self):
        for value in NO_MANY:
            self.raises(BadNumber("many"), arc_no_longer, value, value, value)
        for value in ODD + ((), (1,), (0, 1, 2), {0: 1, 1: 2}):
            if value not in ((1, 2), [[0, 1], [2]]):
                self.raises(BadLot("one"), arc_no_longer, 4, value, value)
                self.raises(BadLot("one"), arc_no_longer, 4, value, (9, 9))
                self.raises(BadLot("other"), arc_no_longer, 4, (9, 9), value)
                self.raises(BadLot("other"), arc_no_longer, 4, [0, 1], value)
        for value in NO_INTEGERS + (-1, 4, HUGE):
            self.raises(NoCorner(value), arc_no_longer, 4, (value, 0), (0, 0))
            self.raises(NoCorner(value), arc_no_longer, 4, (0, value), (7, 8))
            self.raises(NoCorner(value), arc_no_longer, 4, (0, 1), (value, 9))
            self.raises(NoCorner(value), arc_no_longer, 4, (0, 1), (2, value))
        # Pair by pair: equal corners of the one come ahead of no corners of the other.
        self.raises(Twice(1), arc_no_longer, 4, (1, 1), (9, 0))
        self.raises(Twice(2), arc_no_longer, 4, (1, 0), [2, 2])
        self.raises(NoCorner(3), arc_no_longer, 3, [0, 3], (0, 0))
        self.assertEqual(arc_no_longer(4, (0, 2), (0, 2)), Fact([0, 0, 0, 0]))


class FactsTest(Case):

    def test_attributes(self):
        facts = Facts(3, FEW[:2])
        self.like([facts.many, len(facts.facts)], [3, 2])
        self.assertEqual(facts.facts, tuple(FEW[:2]))
        self.like(Facts(5).facts, ())
        self.assertEqual(Facts(many=3, facts=FEW[:6]).facts, tuple(FEW[:6]))
        rows = FEW[:2]
        facts = Facts(3, rows)
        rows.append(None)
        self.assertEqual(facts.facts, tuple(FEW[:2]))

    def test_equality(self):
        self.assertEqual(Facts(3, [FEW[0], FEW[0]]), Facts(3, (FEW[0], FEW[0])))
        self.assertEqual(Facts(4), Facts(4, []))
        self.assertIs(Facts(3) == Facts(4), False)
        for other in ODD + (Facts(4), Facts(3, FEW[:1]), Facts(3, FEW[1::-1]), FEW[0], tuple(FEW[:2])):
            self.assertIs(Facts(3, FEW[:2]) == other, False)
            self.assertIs(other == Facts(3, FEW[:2]), False)

    def test_keeps(self):
        for some in (FEW[:1], FEW[:3], FEW[3:4], FEW[4:], []):
            facts = Facts(3, some)
            plain = [(fact.counts, fact.is_above) for fact in some]
            for lengths in product(range(1, 5), repeat=3):
                self.assertIs(facts.keeps(list(lengths)), are_kept(plain, lengths))
        self.assertIs(Facts(3).keeps([HUGE, HUGE, 2 * HUGE]), True)
        self.assertIs(Facts(3).keeps([HUGE, HUGE, 2 * HUGE + 1]), False)
        for value in NO_LENGTHS:
            self.raises(BadRing("lengths"), Facts(3).keeps, value)
        for value in ([], (1, 2), [9, 1, 1, 1]):
            self.raises(Misfit("bars"), Facts(3).keeps, value)

    def test_with_fact(self):
        facts = Facts(3)
        for at, fact in enumerate(FEW[:6]):
            before = facts
            facts = facts.with_fact(fact)
            self.assertEqual(facts, Facts(3, FEW[:at + 1]))
            self.assertEqual(before, Facts(3, FEW[:at]))
        self.raises(TooMany("facts", 6), facts.with_fact, FEW[0])
        self.raises(Misfit("bars"), facts.with_fact, Fact([0] * 4))
        for value in ODD + ([FEW[0]], "least 1 0 0", (1, 0, 0), Facts(3)):
            self.raises(BadFact("fact"), facts.with_fact, value)
            self.raises(BadFact("fact"), Facts(4).with_fact, value)

    def test_wrong(self):
        for value in NO_MANY:
            self.raises(BadNumber("many"), Facts, value, value)
        for value in ODD + (FEW[0], [FEW[0], None], [[FEW[0]]], Facts(3), [(1, 0, 0)], {FEW[0].counts: 1}):
            if value not in ([], ()):
                self.raises(BadFact("facts"), Facts, 3, value)
        four = Fact([0] * 4)
        self.raises(Misfit("bars"), Facts, 3, [FEW[0], four])
        self.raises(Misfit("bars"), Facts, 4, FEW)
        self.raises(Misfit("bars"), Facts, 3, [FEW[0]] * 7 + [four])
        self.raises(TooMany("facts", 6), Facts, 3, FEW[:7])
        self.raises(TooMany("facts", 6), Facts, 3, [FEW[0]] * 7)


class ReadTest(Case):

    def test_all_texts_of_three_bars(self):
        for word, counts in product(("least", "above"), product(range(-3, 4), repeat=3)):
            text = " ".join([word, *map(str, counts)])
            fact = Fact.read(text)
            self.like([str(fact), fact.counts, fact.is_above], [text, counts, word == "above"])

    def reads(self, items):
        """The text of these items is read, or the right item is told."""
        rights = [str(count) for count in range(-3, 4)]
        text = " ".join(items)
        wrong = [at for at, item in enumerate(items)
                 if item not in (("least", "above") if at == 0 else rights) or at > 6]
        if not wrong and len(items) < 4:
            wrong = [len(items)]
        if wrong:
            self.raises(BadText(0, wrong[0]), Fact.read, text)
        else:
            self.assertEqual(str(Fact.read(text)), text)

    def test_each_item_changed(self):
        others = ("", "least", "above", "0", "-0", "3", "4", "-3", "-4", "+1", "01", "x", "/", "1 2", "1.0", "\u0661",
                  "9" * 61, "Least", "least ", "-")
        for text in ("least 1 -2 3", "above 0 0 0 -3", "above 3 3 3 3 3", "least -1 0 1 2 -2 3"):
            for items in bent_items(text.split(" "), others):
                self.reads(items)

    def test_ends(self):
        for text, item in (("", 0), ("least", 1), ("above 1 2", 3), ("least 1 2 3 ", 4), (" least 1 2 3", 0),
                           ("least  1 2 3", 1), ("least 1 1 1 1 1 1 1", 7), ("least 1 1 1 1 1 1 ", 7),
                           ("least" + " 1" * 30000, 7), ("1 2 3", 0), ("above\n1 2 3", 0)):
            self.raises(BadText(0, item), Fact.read, text)
        for value in ODD:
            if not isinstance(value, str):
                self.raises(BadText(0, 0), Fact.read, value)


if __name__ == "__main__":
    unittest.main()

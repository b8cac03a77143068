"""ringbars.shelves: what a desk keeps."""

import unittest

from ringbars.errors import BadDesk, BadFact, BadNumber, Misfit, NoName, TooMany, Twice
from ringbars.facts import Fact, Facts
from ringbars.rings import Ring
from ringbars.shelves import Shelf
from tests.common import HUGE, NO_INTEGERS, ODD, Case

ONE, TWO = Ring([3, 4, 5]), Ring([1, 1, 1, 1])
FACT, OTHER = Fact([1, 0, -1]), Fact([1, 0, -1], True)


class ShelfTest(Case):

    def test_methods_stand_in_the_class(self):
        for name in ("__init__", "__eq__", "ring"):
            self.assertIn(name, vars(Shelf))

    def test_attributes(self):
        empty = Shelf()
        self.like([empty.rings, empty.many, empty.facts, empty.names], [(), None, (), ()])
        shelf = Shelf([["b", ONE], ("a", TWO)], 3, [FACT, FACT, OTHER])
        self.like([shelf.many, shelf.names], [3, ("b", "a")])
        self.assertEqual(shelf.rings, (("b", ONE), ("a", TWO)))
        self.assertEqual(shelf.facts, (FACT, FACT, OTHER))
        self.assertEqual(shelf, Shelf(rings=(("b", ONE), ("a", TWO)), many=3, facts=(FACT, FACT, OTHER)))
        self.like([Shelf(many=many).many for many in (3, 4, 5, 6)], [3, 4, 5, 6])
        self.assertTrue(all(type(row) is tuple for row in shelf.rings))

    def test_what_is_passed_is_copied(self):
        rings, facts = [["a", ONE]], [FACT]
        shelf = Shelf(rings, 3, facts)
        rings[0][0] = "z"
        rings.append(None)
        facts.append(None)
        self.assertEqual(shelf, Shelf([("a", ONE)], 3, [FACT]))

    def test_ring(self):
        shelf = Shelf([("b", ONE), ("a", TWO), ("c", Ring([3, 4, 5]))])
        self.assertIs(shelf.ring("a"), TWO)
        self.assertEqual(shelf.ring("b"), shelf.ring("c"))
        for value in ODD + ("z", "A", "a ", ["a"], ("a",)):
            if value != "a":
                self.raises(NoName(value), shelf.ring, value)
            self.raises(NoName(value), Shelf().ring, value)

    def test_equality(self):
        shelf = Shelf([("a", ONE), ("b", TWO)], 3, [FACT])
        self.assertEqual(shelf, Shelf([("a", Ring([3, 4, 5])), ("b", TWO)], 3, [Fact([1, 0, -1])]))
        for other in ODD + (Shelf(), Shelf([("b", TWO), ("a", ONE)], 3, [FACT]), Shelf([("a", ONE), ("b", TWO)], 3),
                            Shelf([("a", ONE), ("b", ONE)], 3, [FACT]), Shelf([("a", ONE)], 3, [FACT]),
                            Shelf([("a", ONE), ("b", TWO)], 3, [OTHER]), Shelf([("a", ONE), ("b", TWO)])):
            self.assertIs(shelf == other, False)
            self.assertIs(other == shelf, False)
        self.assertIs(Shelf(many=3) == Shelf(many=4), False)
        self.assertIs(Shelf(many=3) == Shelf(), False)

    def test_wrong_rings(self):
        for value in ODD + ([("a", ONE), None], [("a",)], [("a", ONE, 1)], [("A", ONE)], [(1, ONE)], [("a", [3, 4, 5])],
                            ("a", ONE), {"a": ONE}, [("a", "3 4 5")], [("abcdefghijklm", ONE)], [(ONE, "a")]):
            if value not in ([], ()):
                self.raises(BadDesk("rings"), Shelf, value)
                self.raises(BadDesk("rings"), Shelf, value, value, value)
        self.raises(Twice("b"), Shelf, [("a", ONE), ("b", ONE), ("b", TWO), ("a", TWO)])
        self.raises(Twice("a"), Shelf, [("a", ONE), ("a", ONE)], "3", None)
        self.raises(BadDesk("rings"), Shelf, [("a", ONE), ("a", ONE), None])

    def test_wrong_numbers(self):
        for value in NO_INTEGERS + (-1, 0, 2, 7, HUGE):
            if value is not None:
                self.raises(BadNumber("many"), Shelf, [], value)
                self.raises(BadNumber("many"), Shelf, [("a", ONE)], value, value)

    def test_wrong_facts(self):
        for value in ODD + ([FACT, None], FACT, Facts(3), [[FACT]], ["least 1 0 -1"], "least 1 0 -1", {FACT.counts: 1}):
            if value not in ([], ()):
                self.raises(BadFact("facts"), Shelf, [], 3, value)
                self.raises(BadFact("facts"), Shelf, [], None, value)
        self.raises(BadFact("facts"), Shelf, (), None, [FACT])
        self.assertEqual(Shelf((), None, []), Shelf())
        self.raises(Misfit("bars"), Shelf, (), 4, [FACT])
        self.raises(Misfit("bars"), Shelf, (), 3, [FACT, Fact([0] * 4)])
        self.raises(Misfit("bars"), Shelf, (), 4, [FACT] * 7)
        self.raises(TooMany("facts", 6), Shelf, (), 3, [FACT] * 7)
        self.raises(BadFact("facts"), Shelf, (), 4, [FACT] * 7 + [None])
        self.assertEqual(len(Shelf((), 3, [FACT] * 6).facts), 6)


if __name__ == "__main__":
    unittest.main()

"""ringbars.desk_deeds: deed lines of a desk."""

import unittest
from itertools import combinations

from ringbars.desk_deeds import changed
from ringbars.desk_lines import ASKS
from ringbars.errors import BadDesk, BadNumber, BadRing, BadText, Misfit, NoBar, NoName, Nothing, TooMany, Twice
from ringbars.facts import Fact
from ringbars.rings import Ring
from ringbars.shelves import Shelf
from tests.common import EVERY, ODD, Case
from tests.test_desk_lines import FORMS, lines_of

FACTS = [Fact([1, -1, 0]), Fact([0, 1, -1], True), Fact([1, 1, -1]), Fact([1, -1, 0]), Fact([-1, 2, 0]), Fact([0, 0, 1])]


def shelf_of(*lengths, many=None, facts=()):
    """A shelf with rings under the names a, b, .. ."""
    return Shelf([("abcdefgh"[at], Ring(one)) for at, one in enumerate(lengths)], many, facts)


class DeedsTest(Case):

    def setUp(self):
        self.shelf = shelf_of([2, 2, 1, 1, 1], [3, 4, 5], many=3, facts=FACTS[:3])

    def test_examples(self):
        shelf, answer = changed(Shelf([("a", Ring([2, 2, 1, 1, 1]))]), "join a 2")
        self.like([answer, shelf.ring("a").lengths, changed(shelf, "put b 3 4 5")[1], changed(shelf, "bars 4")[0].many],
                  ["2 2 2 1", (2, 2, 2, 1), "2", 4])

    def test_put_and_drop(self):
        shelf = Shelf()
        for at, lengths in enumerate(EVERY):
            before = shelf
            shelf, answer = changed(shelf, f"put r{at} " + " ".join(map(str, lengths)))
            self.like([answer, shelf.names], [str(at + 1), before.names + (f"r{at}",)])
            self.assertEqual(shelf.ring(f"r{at}"), Ring(lengths))
            self.assertEqual(before.rings, shelf.rings[:-1])
        told, answer = changed(shelf, "drop r3")
        self.like([answer, told.names], [str(len(EVERY) - 1), shelf.names[:3] + shelf.names[4:]])
        self.assertEqual(told.rings, shelf.rings[:3] + shelf.rings[4:])
        self.assertEqual(changed(changed(Shelf(), "put a 1 1 1")[0], "drop a"), (Shelf(), "0"))

    def check(self, lengths, line, ring):
        """The line changes the ring in the middle to this one; it keeps its place, all else stays."""
        shelf = shelf_of([9, 9, 9], lengths, [1, 1, 1], many=3, facts=FACTS)
        behind, answer = changed(shelf, line)
        self.assertEqual(answer, str(ring))
        self.assertEqual(behind, shelf_of([9, 9, 9], ring.lengths, [1, 1, 1], many=3, facts=FACTS))
        self.assertEqual(shelf, shelf_of([9, 9, 9], lengths, [1, 1, 1], many=3, facts=FACTS))

    def test_rings_changed(self):
        for lengths in EVERY:
            ring, many = Ring(lengths), len(lengths)
            for bar in range(many):
                self.check(lengths, f"begin b {bar}", ring.begun_at(bar))
                for length in (1, 7, 1000000):
                    self.check(lengths, f"length b {bar} {length}", ring.with_length(bar, length))
                if many > 3:
                    self.check(lengths, f"join b {bar}", ring.as_one(bar))
                for length in range(1, lengths[bar] if many < 8 else 1):
                    self.check(lengths, f"cut b {bar} {length}", ring.in_two(bar, length))
            self.check(lengths, "backwards b", ring.backwards())

    def test_errors_of_rings(self):
        shelf = self.shelf
        for line, error in (("length a 5 0", NoBar(5)), ("length a 4 0", BadNumber("length")),
                            ("length a 0 1000001", BadNumber("length")), ("begin a 5", NoBar(5)),
                            ("join a 9", NoBar(9)), ("join b 0", BadRing("bars")), ("join b 3", NoBar(3)),
                            ("cut a 5 9", NoBar(5)), ("cut a 0 0", BadNumber("length")),
                            ("cut a 0 2", BadNumber("length")), ("cut a 2 1", BadNumber("length"))):
            self.raises(error, changed, shelf, line)
        great = shelf_of([1000000, 1, 1, 1000000], [2] * 8, [1000000, 1, 1])
        self.raises(BadRing("lengths"), changed, great, "join a 3")
        self.raises(BadRing("lengths"), changed, great, "join c 0")
        self.raises(TooMany("bars", 8), changed, great, "cut b 0 1")
        self.raises(BadNumber("length"), changed, great, "cut b 0 2")

    def test_bars(self):
        for many in range(3, 7):
            for shelf in (Shelf(), self.shelf, shelf_of([1, 1, 1], many=many)):
                self.assertEqual(changed(shelf, f"bars {many}"), (Shelf(shelf.rings, many), str(many)))
        for many in (0, 1, 2, 7, 8, 10 ** 59):
            self.raises(BadNumber("many"), changed, self.shelf, f"bars {many}")

    def test_tell(self):
        shelf = Shelf(many=3)
        for at, fact in enumerate(FACTS):
            shelf, answer = changed(shelf, f"tell {fact}")
            self.assertEqual([answer, shelf], [str(at), Shelf(many=3, facts=FACTS[:at + 1])])
        self.raises(TooMany("facts", 6), changed, shelf, "tell least 1 0 0")
        self.raises(Misfit("bars"), changed, shelf, "tell least 1 0 0 0")
        self.raises(Misfit("bars"), changed, Shelf(many=4), "tell least 1 0 0")

    def test_strike(self):
        shelf = Shelf(many=3, facts=FACTS)
        for size in range(1, 7):
            for numbers in combinations(range(6), size):
                left = [fact for at, fact in enumerate(FACTS) if at not in numbers]
                for order in (numbers, numbers[::-1]):
                    told = changed(shelf, "strike " + " ".join(map(str, order)))
                    self.assertEqual(told, (Shelf(many=3, facts=left), str(len(left))))
        for line, error in (("strike 6", BadNumber("number")), ("strike 0 6", BadNumber("number")),
                            ("strike 0 0", Twice(0)), ("strike 1 2 2 1", Twice(2)),
                            ("strike 0 0 9", BadNumber("number"))):
            self.raises(error, changed, shelf, line)
        self.raises(BadNumber("number"), changed, Shelf(many=3), "strike 0")

    def test_errors_in_order(self):
        shelf = self.shelf
        bare = Shelf(shelf.rings)
        for line, error in (("put a 1 1", BadText(0, 4)), ("put a 1 1 1", Twice("a")), ("put z 0 1 1", BadText(0, 2)),
                            ("length z 99 0", NoName("z")), ("length z 99", BadText(0, 3)), ("begin z 99", NoName("z")),
                            ("backwards z", NoName("z")), ("join z 9", NoName("z")), ("cut z 9 9", NoName("z")),
                            ("drop z", NoName("z")), ("drop Z", BadText(0, 1)), ("drop a b", BadText(0, 2))):
            for one in (shelf, bare):
                self.raises(error, changed, one, line)
        for line in ("tell least 1 0 0 0", "tell least 1 0 0", "strike 9 9", "strike 0"):
            self.raises(Nothing(), changed, bare, line)
        self.raises(BadText(0, 1), changed, bare, "strike x")
        self.raises(BadText(0, 4), changed, bare, "tell least 1 0")

    def test_ask_lines(self):
        self.assertEqual(len(ASKS), 25)
        for word in ASKS:
            for tail in ("", " ", " a", " a 0 1", " x y z", "  ", " least 1 0 0", " 0", "\n"):
                self.raises(BadText(0, 0), changed, self.shelf, word + tail)
                self.raises(BadText(0, 0), changed, Shelf(), word + tail)

    def test_no_lines(self):
        for value in ODD:
            self.raises(BadDesk("shelf"), changed, value, value)
            self.raises(BadText(0, 0), changed, self.shelf, value)
        for line in ("", " ", " drop a", "Drop a", "dropa", "names", "desk"):
            self.raises(BadText(0, 0), changed, self.shelf, line)

    def test_all_deeds_are_done(self):
        shelf = shelf_of([5, 6, 7, 8, 9], many=3, facts=FACTS[:4])
        for word in [word for word in FORMS if word not in ASKS]:
            line = {"length": "length a 1 2", "cut": "cut a 1 2", "begin": "begin a 2", "join": "join a 2",
                    "bars": "bars 4", "put": "put b 1 1 1", "tell": "tell least 1 1 1"}.get(word, lines_of(word)[0])
            behind, answer = changed(shelf, line)
            self.assertIs(type(behind), Shelf)
            self.assertIs(type(answer), str)
            self.assertNotEqual(behind, shelf)


if __name__ == "__main__":
    unittest.main()

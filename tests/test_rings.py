"""ringbars.rings: rings and what can be done with one."""

import unittest

from ringbars.errors import BadLot, BadNumber, BadRing, BadText, NoBar, TooMany, Twice
from ringbars.rings import Ring
from tests.common import EVERY, NO_INTEGERS, ODD, Case, Odd
from tests.plain import sort_of, subsets

MOST = 1000000
NO_BARS = (None, True, False, -1, 5, 6, "0", [0], (1,), 10 ** 100, [], {}, Odd())


class RingsTest(Case):

    def setUp(self):
        self.ring = Ring([3, 2, 2, 1, 1])

    def test_examples(self):
        ring = self.ring
        told = [ring.total, ring.closes, ring.is_clear, ring.length_of([0, 3]),
                ring.sort_of((0, 3)), ring.sort_of([0, 1]), Ring([2, 1, 2, 1]).sort_of([0, 3])]
        self.like(told, [9, True, True, 4, "short", "long", "level"])
        told = [str(ring.with_length(0, 7)), str(ring.begun_at(2)), str(ring.backwards()),
                str(ring.in_order([4, 3, 0, 1, 2]))]
        self.like(told, ["7 2 2 1 1", "2 1 1 3 2", "3 1 1 2 2", "1 1 3 2 2"])
        told = [str(ring.as_one(1)), str(ring.as_one(4)), str(ring.in_two(0, 1))]
        self.like(told, ["3 4 1 1", "4 2 2 1", "1 2 2 2 1 1"])
        self.like([Ring([3, 1, 1, 1]).closes, Ring([4, 1, 1, 1]).closes], [True, False])
        self.raises(NoBar(5), ring.sort_of, [1, 5])
        self.raises(BadText(0, 2), Ring.read, "3 2 0 1")

    def test_methods_stand_in_the_class(self):
        for name in ("__len__", "__eq__", "__str__", "length_of", "sort_of", "with_length",
                     "begun_at", "backwards", "in_order", "as_one", "in_two", "read"):
            self.assertIn(name, vars(Ring))

    def test_attributes(self):
        for lengths in EVERY:
            ring = Ring(lengths)
            self.like(ring.lengths, tuple(lengths))
            self.like(ring.total, sum(lengths))
            self.like(len(ring), len(lengths))
            sorts = {lot: sort_of(lengths, lot) for lot in subsets(len(lengths))}
            alone = [sorts[(bar,)] for bar in range(len(lengths))]
            self.like(ring.closes, "long" not in alone)
            self.like(ring.is_clear, "level" not in sorts.values())
            for lot, sort in sorts.items():
                self.like(ring.sort_of(lot[::-1]), sort)
                self.like(ring.length_of(list(lot)), sum(lengths[bar] for bar in lot))

    def test_edges(self):
        ring = Ring((1, MOST, MOST))
        self.assertEqual(str(ring), "1 1000000 1000000")
        self.assertEqual(len(Ring([1] * 8)), 8)
        self.assertEqual(self.ring.length_of(()), 0)
        self.assertEqual(self.ring.length_of([4, 3, 2, 1, 0]), 9)
        self.assertEqual(self.ring.sort_of(()), "short")
        self.assertEqual(self.ring.sort_of((0, 1, 2, 3, 4)), "long")

    def test_odd_total_is_clear_and_half_is_short(self):
        for lengths in EVERY:
            ring = Ring(lengths)
            lots = subsets(len(lengths))
            if sum(lengths) % 2 == 1:
                self.assertTrue(ring.is_clear)
            if ring.is_clear:
                short = [lot for lot in lots if ring.sort_of(lot) == "short"]
                self.assertEqual(2 * len(short), len(lots))
            for lot in lots:
                other = [bar for bar in range(len(lengths)) if bar not in lot]
                turned = {"short": "long", "long": "short", "level": "level"}
                self.assertEqual(turned[ring.sort_of(lot)], ring.sort_of(other))

    def test_wrong_lengths(self):
        for value in ODD:
            if value not in ([3, 2, 2], [], (), (1, 2)):
                self.raises(BadRing("lengths"), Ring, value)
        for value in ([3, 0, 3], [3, 3, MOST + 1], [1, 2, True], [1, 2, "3"], [1, 2, None],
                      [1, 2, [3]], [-1, 2, 2], [-1], "3 2 2", {1: 1, 2: 1, 3: 1}, [0] * 9,
                      [1] * 9 + [0], [1, True], range(1, 4)):
            self.raises(BadRing("lengths"), Ring, value)
        for value in ([], (), [1], (MOST, MOST)):
            self.raises(BadRing("bars"), Ring, value)
        for value in ([1] * 9, (MOST,) * 100):
            self.raises(TooMany("bars", 8), Ring, value)

    def test_copied(self):
        lengths = [3, 2, 2]
        ring = Ring(lengths)
        lengths[0] = 9
        lengths.append(1)
        self.like(ring.lengths, (3, 2, 2))
        order = [2, 1, 0]
        turned = ring.in_order(order)
        order[0] = 0
        self.like(turned.lengths, (2, 2, 3))
        self.like(ring.lengths, (3, 2, 2))

    def test_equality(self):
        self.assertEqual(Ring([3, 2, 2]), Ring((3, 2, 2)))
        for other in (Ring([2, 3, 2]), Ring([3, 2, 2, 1]), (3, 2, 2), [3, 2, 2], "3 2 2", None, 3):
            self.assertIs(Ring([3, 2, 2]) == other, False)
            self.assertIs(Ring([3, 2, 2]) != other, True)

    def test_wrong_lots(self):
        for call in (self.ring.length_of, self.ring.sort_of):
            for value in (None, True, 3, "01", {}, [True], [0, None], [[0]], ["0"], (0, (1,)), b"a"):
                self.raises(BadLot("lot"), call, value)
            self.raises(NoBar(5), call, [0, 5, 7])
            self.raises(NoBar(-1), call, (-1,))
            self.raises(Twice(3), call, [3, 1, 3, 1])
            # Two things wrong at once.
            self.raises(BadLot("lot"), call, [9, 9, None])
            self.raises(NoBar(9), call, [0, 0, 9])

    def test_with_length(self):
        ring = self.ring
        self.like(ring.with_length(4, MOST).lengths, (3, 2, 2, 1, MOST))
        self.like(ring.with_length(2, 1).lengths, (3, 2, 1, 1, 1))
        self.like(ring.lengths, (3, 2, 2, 1, 1))
        for value in NO_BARS:
            self.raises(NoBar(value), ring.with_length, value, 3)
            self.raises(NoBar(value), ring.with_length, value, 0)
        for value in NO_INTEGERS + (0, -1, MOST + 1):
            self.raises(BadNumber("length"), ring.with_length, 0, value)

    def test_begun_at(self):
        for bar in range(5):
            turned = self.ring.begun_at(bar)
            self.like(turned.lengths, tuple(self.ring.lengths[(bar + k) % 5] for k in range(5)))
        for value in NO_BARS:
            self.raises(NoBar(value), self.ring.begun_at, value)

    def test_backwards(self):
        for lengths in EVERY:
            ring = Ring(lengths)
            many = len(lengths)
            self.like(ring.backwards().lengths, tuple(lengths[-k % many] for k in range(many)))
            self.assertEqual(ring.backwards().backwards(), ring)

    def test_in_order(self):
        self.like(Ring([5, 6, 7]).in_order((2, 0, 1)).lengths, (7, 5, 6))
        for value in ODD + ([0, 1, 2, 3], [0, 1, 2, 3, 3], [1, 2, 3, 4, 5], [0, 1, 2, 3, 4, 5],
                            [False, True, 2, 3, 4], ["0", 1, 2, 3, 4], {0: 1, 1: 1, 2: 1, 3: 1, 4: 1}):
            self.raises(BadNumber("order"), self.ring.in_order, value)

    def test_as_one(self):
        four = Ring([1, 2, 3, 4])
        self.like([four.as_one(bar).lengths for bar in range(4)],
                  [(3, 3, 4), (1, 5, 4), (1, 2, 7), (5, 2, 3)])
        for value in NO_BARS:
            self.raises(NoBar(value), self.ring.as_one, value)
        for bar in range(3):
            self.raises(BadRing("bars"), Ring([3, 2, 2]).as_one, bar)
        self.raises(NoBar(3), Ring([3, 2, 2]).as_one, 3)
        great = Ring([MOST, 1, 1, MOST])
        self.raises(BadRing("lengths"), great.as_one, 0)
        self.raises(BadRing("lengths"), great.as_one, 3)
        self.like(great.as_one(1).lengths, (MOST, 2, MOST))
        # Too great and too few at once: lengths come first.
        self.raises(BadRing("lengths"), Ring([MOST, 1, 1]).as_one, 0)
        self.like(Ring([1] * 8).as_one(7).lengths, (2, 1, 1, 1, 1, 1, 1))

    def test_as_one_keeps_sorts(self):
        for lengths in EVERY:
            ring = Ring(lengths)
            many = len(lengths)
            for bar in range(many if many > 3 else 0):
                one = ring.as_one(bar)
                parts = [[k] for k in range(many)]
                if bar == many - 1:
                    parts = [[bar, 0]] + parts[1:-1]
                else:
                    parts[bar:bar + 2] = [[bar, bar + 1]]
                for lot in subsets(many - 1):
                    old = [k for part in lot for k in parts[part]]
                    self.assertEqual(one.sort_of(lot), ring.sort_of(old))

    def test_in_two(self):
        ring = self.ring
        self.like(ring.in_two(0, 2).lengths, (2, 1, 2, 2, 1, 1))
        self.like(ring.in_two(2, 1).lengths, (3, 2, 1, 1, 1, 1))
        self.assertEqual(ring.in_two(1, 1).as_one(1), ring)
        self.like(Ring([1, 1, MOST]).in_two(2, MOST - 1).lengths, (1, 1, MOST - 1, 1))
        for value in NO_BARS:
            self.raises(NoBar(value), ring.in_two, value, 0)
        for value in NO_INTEGERS + (0, 3, -1, MOST):
            self.raises(BadNumber("length"), ring.in_two, 0, value)
        self.raises(BadNumber("length"), ring.in_two, 4, 1)
        eight = Ring([2] * 8)
        self.raises(TooMany("bars", 8), eight.in_two, 0, 1)
        self.raises(BadNumber("length"), eight.in_two, 0, 2)
        self.raises(NoBar(8), eight.in_two, 8, 2)
        self.like(Ring([2] * 7).in_two(6, 1).lengths, (2, 2, 2, 2, 2, 2, 1, 1))

    def test_read(self):
        for lengths in EVERY + ([1, MOST, 1],):
            ring = Ring(lengths)
            self.assertEqual(Ring.read(str(ring)), ring)
            self.assertEqual(str(Ring.read(str(ring))), " ".join(map(str, lengths)))

    def test_read_wrong(self):
        for value in ODD:
            if not isinstance(value, str):
                self.raises(BadText(0, 0), Ring.read, value)
        self.raises(BadText(0, 0), Ring.read, "")
        self.raises(BadText(0, 0), Ring.read, " ")
        for many in (1, 2):
            self.raises(BadText(0, many), Ring.read, " ".join(["5"] * many))
        self.raises(BadText(0, 8), Ring.read, " ".join(["5"] * 9))
        self.raises(BadText(0, 8), Ring.read, " ".join(["5"] * 8) + " ")
        self.raises(BadText(0, 8), Ring.read, " ".join(["5"] * 100))

    def test_read_items(self):
        wrong = ("0", "-1", "1000001", "01", "+1", "1.0", "x", "", "1_0", "-0", "--1", "\u0661",
                 "\u00b2", "1\n", "\t1", "True", "1" * 60, "1" * 61, "1" * 5000, "/", "|")
        for many in range(3, 9):
            items = ["7"] * many
            for at in range(many):
                for item in wrong:
                    text = " ".join(items[:at] + [item] + items[at + 1:])
                    self.raises(BadText(0, at), Ring.read, text)
                    text = " ".join(items[:at] + [item] + items[at:])
                    self.raises(BadText(0, at), Ring.read, text)
        self.raises(BadText(0, 3), Ring.read, "1 2 3 ")
        self.raises(BadText(0, 1), Ring.read, "1  2 3")
        self.raises(BadText(0, 1), Ring.read, "1 2\n3 4 5")


if __name__ == "__main__":
    unittest.main()

"""ringbars.takenapart: whether webs lie, and how far pins are apart."""

import unittest
from itertools import combinations, permutations

from ringbars.arcs import corner_range
from ringbars.errors import BadWeb, Impossible, Misfit, NoPin, Twice
from ringbars.rings import Ring
from ringbars.takenapart import Lies, LoopTooLong, can_lie, pin_range
from ringbars.webs import Web, makes_knot, put_together, web_of
from tests.common import EVERY, ODD, Case
from tests.pins import grown, is_apart, length_of, loop_of, pins_of, spans_left, ways
from tests.test_webs import NO_PINS


class TakenApartTest(Case):

    def setUp(self):
        self.web = Web([("a", "b", 3), ("b", "c", 1), ("a", "d", 5), ["d", "c", 2]])

    def test_examples(self):
        web = self.web
        self.like([pin_range(web, "a", "c"), pin_range(web.without(3), "a", "c"), pin_range(web.without(3), "d", "c"),
                   pin_range(web, "b", "a")], [(3, 4), (2, 4), (1, 9), (3, 3)])
        self.like([can_lie(web).word, can_lie(Web([("a", "b", 5), ("b", "c", 1), ("c", "a", 2)])).parts,
                   can_lie(Web([("a", "b", 1), ("b", "a", 2)])).parts], ["lies", (0, (2, 1)), (1, (0,))])
        self.like([pin_range(Web([("a", "b", 1), ("c", "d", 2)]), "a", "d"),
                   pin_range(web_of(Ring([5, 2, 1, 1, 4])), "c0", "c2")], [(0, None), (3, 6)])
        self.raises(Misfit("knot"), pin_range, web.with_bar("a", "c", 4), "b", "d")

    def test_can_lie(self):
        found = []
        for number in range(600):
            bars = grown(number)
            web = Web(bars)
            paper = can_lie(web)
            loop = loop_of(bars)
            found.append(bool(paper))
            if loop is None:
                self.assertIs(type(paper), Lies)
                self.assertTrue(is_apart(bars, paper.rows), (bars, paper.rows))
            else:
                self.assertIs(type(paper), LoopTooLong)
                self.like(paper.bar, loop)
                self.assertIn(paper.way, ways(bars, *bars[loop][:2]))
                self.assertNotIn(loop, paper.way)
                self.assertLess(length_of(bars, paper.way), bars[loop][2])
            self.assertEqual(paper, can_lie(web))
        self.assertTrue(100 < found.count(True) < 500)

    def test_lies_by_taking_pins_away(self):
        for number in range(200):
            bars = grown(number, 7, 6, 4)
            one, other = pins_of(bars)[:2]
            lies = loop_of(bars) is None
            left = spans_left(bars, one, other) if not makes_knot(Web(bars), one, other) else None
            if left is not None:
                self.assertIs(bool(left), lies)

    def test_pin_range(self):
        found = {}
        for number in range(250):
            bars = grown(number, 8, 7, 4)
            web = Web(bars)
            for one, other in permutations(pins_of(bars), 2):
                word = self.check_range(bars, web, one, other)
                found[word] = found.get(word, 0) + 1
        self.assertTrue(all(found[word] > 50 for word in ("knot", "none", "apart", "range")), found)

    def check_range(self, bars, web, one, other):
        """What pin_range tells is what taking pins away leaves, and what the ways tell."""
        if makes_knot(web, one, other):
            self.raises(Misfit("knot"), pin_range, web, one, other)
            return "knot"
        if loop_of(bars) is not None:
            self.raises(Impossible(can_lie(web)), pin_range, web, one, other)
            return "none"
        told = pin_range(web, one, other)
        left = spans_left(bars, one, other)
        lengths = [(length_of(bars, way), max(bars[at][2] for at in way)) for way in ways(bars, one, other)]
        if not lengths:
            self.like(told, (0, None))
            self.assertIsNone(left)
            return "apart"
        self.like(told, (max([0] + [2 * longest - length for length, longest in lengths]), min(lengths)[0]))
        self.assertEqual(left, set(range(told[0], told[1] + 1)))
        return "range"

    def test_a_further_bar_lies_just_within_the_range(self):
        for number in range(80):
            bars = grown(number, 6, 5, 4)
            web = Web(bars)
            for one, other in combinations(web.pins, 2):
                if loop_of(bars) is None and not makes_knot(web, one, other):
                    low, high = pin_range(web, one, other)
                    for span in range(1, 12):
                        right = low <= span and (high is None or span <= high)
                        self.assertIs(bool(can_lie(web.with_bar(one, other, span))), right)

    def test_rings(self):
        for lengths in EVERY:
            ring = Ring(lengths)
            web = web_of(ring)
            self.assertIs(bool(can_lie(web)), ring.closes)
            for one, other in permutations(range(len(lengths)), 2):
                if ring.closes:
                    self.like(pin_range(web, f"c{one}", f"c{other}"), corner_range(ring, one, other))
                else:
                    self.raises(Impossible(can_lie(web)), pin_range, web, f"c{one}", f"c{other}")

    def test_webs_put_together(self):
        for number in range(150):
            one, other = grown(number, 5, 4, 4), grown(number + 500, 5, 4, 4)
            shared = pins_of(other)[:1 + number % 2]
            told = {pin: f"z{pin}" for pin in pins_of(other)}
            told.update(zip(shared, pins_of(one)[::-1]))
            moved = [(told[first], told[second], length) for first, second, length in other]
            webs = Web(one), Web(moved)
            both = [told[pin] for pin in shared]
            right = all(map(can_lie, webs))
            if len(both) == 2:
                if any(makes_knot(web, *both) for web in webs):
                    continue
                if right:
                    ranges = [pin_range(web, *both) for web in webs]
                    highs = [high for _, high in ranges if high is not None]
                    right = max(low for low, _ in ranges) <= min(highs, default=99)
            self.assertIs(bool(can_lie(put_together(*webs))), bool(right))

    def test_edges(self):
        one = Web([("b", "a", 7)])
        self.like([can_lie(one).rows, pin_range(one, "a", "b")], [(("a", ("b",), None),), (7, 7)])
        ten = Web([("a", "b", 4)] * 10)
        self.assertTrue(can_lie(ten))
        self.like(pin_range(ten, "b", "a"), (4, 4))
        unlike = Web([("a", "b", 4)] * 9 + [("b", "a", 3)])
        self.like(can_lie(unlike).parts, (0, (9,)))
        eight = Web([("p", name, 1) for name in "abcdefg"])
        self.assertTrue(can_lie(eight))
        self.like(pin_range(eight, "a", "g"), (0, 2))
        apart = Web([("a", "b", 1), ("c", "d", 5), ("c", "d", 4)])
        self.raises(Impossible(LoopTooLong(1, (2,))), pin_range, apart, "a", "c")
        great = Web([("a", "b", 1000000), ("b", "c", 1000000), ("c", "d", 1)])
        self.like([pin_range(great, "a", "c"), pin_range(great, "a", "d")], [(0, 2000000), (0, 2000001)])

    def test_wrong(self):
        web = self.web
        for value in ODD:
            self.raises(BadWeb("web"), can_lie, value)
            self.raises(BadWeb("web"), pin_range, value, value, value)
        for value in NO_PINS:
            self.raises(NoPin(value), pin_range, web, value, value)
            self.raises(NoPin(value), pin_range, web, "a", value)
        self.raises(Twice("d"), pin_range, web, "d", "d")
        # A knot comes ahead of a web that does not lie.
        bad = web.with_bar("a", "c", 99)
        self.raises(Misfit("knot"), pin_range, bad, "b", "d")
        self.raises(Twice("b"), pin_range, bad, "b", "b")
        self.raises(Impossible(LoopTooLong(4, (0, 1))), pin_range, bad, "b", "a")


if __name__ == "__main__":
    unittest.main()

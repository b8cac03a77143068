"""ringbars.webs: webs of bars between pins, and the ways in them."""

import unittest
from itertools import permutations

from ringbars.errors import BadRing, BadText, BadWeb, NoBar, NoPin, TooMany, Twice
from ringbars.knots import has_knot, joined_by
from ringbars.rings import Ring
from ringbars.webs import Web, joined_to, makes_knot, put_together, shortest_way, ways, web_of
from tests.common import EVERY, HUGE, NO_INTEGERS, ODD, Case, as_lists, bent_items
from tests.pins import any_bars, grown, length_of, pins_of
from tests.pins import has_knot as plain_knot
from tests.pins import ways as plain_ways

MOST = 1000000
NO_BARS = ODD + ([("a", "b")], [("a", "b", 1, 1)], [("a", "a", 1)], [("a", "b", 0)], [("a", "b", MOST + 1)],
                 [("a", "b", True)], [("a", "b", "1")], [("A", "b", 1)], [("a", "", 1)], [("a", "abcdefghijklm", 1)],
                 [("a", 1, 1)], [(None, "b", 1)], ["ab1"], [("a", "b", 1), None], [{"a": 1, "b": 2, "c": 3}],
                 ("a", "b", 1), {("a", "b", 1): 1}, "a b 1", [("a", "b", -1)], [("a", "b", HUGE)])
NO_PINS = tuple(value for value in ODD if value != "a") + ("e", "A", "abcdefghijklm", "a ", ["a"], ("a",))
# Four pins, each joined to each other one: with a bar less there is no knot.
KNOT = [("a", "b", 1), ("a", "c", 1), ("a", "d", 1), ("b", "c", 1), ("b", "d", 1), ("c", "d", 1)]


class WebTest(Case):

    def setUp(self):
        self.web = Web([("a", "b", 3), ("b", "c", 1), ("a", "d", 5), ["d", "c", 2]])

    def test_examples(self):
        web = self.web
        self.like([web.pins, str(web), joined_to(web, "b"), ways(web, "a", "c"), shortest_way(web, "a", "c"),
                   ways(web, "c", "d")],
                  [("a", "b", "c", "d"), "a b 3 / b c 1 / a d 5 / d c 2", ("a", "c"), ((0, 1), (2, 3)), (0, 1),
                   ((3,), (1, 0, 2))])
        self.like([makes_knot(web, "a", "c"), makes_knot(web.with_bar("c", "a", 4), "b", "d"),
                   str(web_of(Ring([2, 1, 2]))), len(web.without(3))],
                  [False, True, "c0 c1 2 / c1 c2 1 / c2 c0 2", 3])
        self.raises(BadText(0, 5), Web.read, "a b 3 / b b 1")
        self.raises(BadWeb("knot"), web.with_bar("a", "c", 4).with_bar, "b", "d", 3)

    def test_methods_stand_in_the_class(self):
        for name in ("__init__", "__eq__", "__len__", "__str__", "with_bar", "without", "read"):
            self.assertIn(name, vars(Web))

    def test_attributes(self):
        for number in range(150):
            bars = grown(number)
            web = Web(as_lists(bars))
            self.like([web.bars, web.pins, len(web)], [tuple(bars), tuple(pins_of(bars)), len(bars)])
            self.assertEqual(web, Web(tuple(bars)))
        rows = [["b", "a", 1]]
        web = Web(rows)
        rows[0][2] = 7
        rows.append(None)
        self.like([web.bars, web.pins], [(("b", "a", 1),), ("a", "b")])

    def test_pins_ascend_as_strings(self):
        self.like(Web([("b", "a10", 1), ("a9", "a1", 1), ("b", "a9", 1)]).pins, ("a1", "a10", "a9", "b"))

    def test_equality(self):
        web = self.web
        self.assertEqual(web, Web.read(str(web)))
        bars = list(web.bars)
        for other in ODD + (Web(bars[:3]), Web(bars[::-1]), Web([("b", "a", 3)] + bars[1:]), web.bars, str(web),
                            Web([("a", "b", 4)] + bars[1:])):
            self.assertIs(web == other, False)
            self.assertIs(other == web, False)

    def test_wrong(self):
        for value in NO_BARS:
            self.raises(BadWeb("bars"), Web, value)
        row = [("a", "b", 1)]
        self.assertEqual(len(Web(row * 10)), 10)
        self.raises(TooMany("bars", 10), Web, row * 11)
        self.raises(BadWeb("bars"), Web, row * 11 + [None])
        names = [f"p{at}" for at in range(11)]
        line = [(names[at], names[at + 1], 1) for at in range(10)]
        self.assertEqual(len(Web(line[:7]).pins), 8)
        self.raises(TooMany("pins", 8), Web, line[:8])
        self.raises(TooMany("pins", 8), Web, line)
        self.raises(TooMany("bars", 10), Web, line + row)
        self.raises(TooMany("pins", 8), Web, KNOT + [("a", "p", 1), ("q", "r", 1), ("s", "t", 1)])
        self.raises(TooMany("bars", 10), Web, KNOT + row * 5)
        self.raises(BadWeb("knot"), Web, KNOT)
        self.raises(BadWeb("knot"), Web, KNOT + row * 4)
        self.raises(BadWeb("knot"), Web, [("x", "y", 1)] + KNOT)

    def test_knots(self):
        found = 0
        for number in range(400):
            bars = any_bars(number)
            knot = plain_knot(bars)
            found += knot
            self.assertIs(has_knot(joined_by([bar[:2] for bar in bars])), knot)
            if knot:
                self.raises(BadWeb("knot"), Web, bars)
            else:
                self.assertEqual(len(Web(bars)), len(bars))
        self.assertTrue(40 < found < 360, found)

    def test_knots_with_pins_between(self):
        # Each of the six bars of a knot may be a way of several.
        for at in range(6):
            one, other, _ = KNOT[at]
            bars = KNOT[:at] + [(one, "x", 1), ("x", "y", 1), ("y", other, 1)] + KNOT[at + 1:]
            self.raises(BadWeb("knot"), Web, bars)
            for left in range(8):
                self.assertEqual(len(Web(bars[:left] + bars[left + 1:])), 7)
        # Two threes of pins, each one joined to each of the others: a knot without three joined pins.
        self.raises(BadWeb("knot"), Web, [(one, other, 1) for one in "abc" for other in "xyz"])
        self.assertEqual(len(Web([(one, other, 1) for one in "ab" for other in "uvxyz"])), 10)

    def test_with_bar(self):
        web = self.web
        self.like(web.with_bar("c", "z", 9).bars, web.bars + (("c", "z", 9),))
        self.like(web.bars[-1], ("d", "c", 2))
        for value in NO_INTEGERS + (0, -1, MOST + 1, HUGE):
            self.raises(BadWeb("bars"), web.with_bar, "a", "b", value)
        for value in ODD:
            if value != "a":
                self.raises(BadWeb("bars"), web.with_bar, value, "b", 1)
                self.raises(BadWeb("bars"), web.with_bar, "b", value, 1)
        self.raises(BadWeb("bars"), web.with_bar, "x", "x", 1)
        full = Web([("a", "b", 1)] * 10)
        self.raises(TooMany("bars", 10), full.with_bar, "a", "b", 1)
        self.raises(BadWeb("bars"), full.with_bar, "a", "a", 1)
        eight = Web([("p", name, 1) for name in "abcdefg"])
        self.raises(TooMany("pins", 8), eight.with_bar, "a", "h", 1)
        self.assertEqual(len(eight.with_bar("a", "b", 1)), 8)

    def test_without(self):
        for number in range(40):
            bars = grown(number)
            for at in range(len(bars) if len(bars) > 1 else 0):
                web = Web(bars).without(at)
                self.like([web.bars, web.pins], [tuple(bars[:at] + bars[at + 1:]),
                                                 tuple(pins_of(bars[:at] + bars[at + 1:]))])
        for value in NO_INTEGERS + (-1, 4, HUGE):
            self.raises(NoBar(value), self.web.without, value)
        one = Web([("a", "b", 1)])
        self.raises(BadWeb("bars"), one.without, 0)
        self.raises(NoBar(1), one.without, 1)

    def test_joined_to(self):
        for number in range(100):
            bars = grown(number)
            for pin in pins_of(bars):
                near = {far for bar in bars if pin in bar[:2] for far in bar[:2]} - {pin}
                self.like(joined_to(Web(bars), pin), tuple(sorted(near)))
        for value in ODD:
            self.raises(BadWeb("web"), joined_to, value, value)
        for value in NO_PINS:
            self.raises(NoPin(value), joined_to, self.web, value)

    def test_ways(self):
        for number in range(120):
            bars = grown(number, 8)
            web = Web(bars)
            for one, other in permutations(pins_of(bars), 2):
                found = plain_ways(bars, one, other)
                self.like(ways(web, one, other), tuple(found))
                least = min((length_of(bars, way) for way in found), default=None)
                right = [way for way in found if length_of(bars, way) == least]
                self.like(shortest_way(web, one, other), right[0] if right else None)

    def test_many_ways(self):
        names = "abcdef"
        web = Web([(names[at // 2], names[at // 2 + 1], 1 + at % 2) for at in range(10)])
        found = ways(web, "a", "f")
        self.assertEqual([len(found), found[0], found[-1]], [32, (0, 2, 4, 6, 8), (1, 3, 5, 7, 9)])
        self.like(shortest_way(web, "f", "a"), (8, 6, 4, 2, 0))
        self.like(ways(Web([("a", "b", 1), ("b", "a", 1)]), "b", "a"), ((0,), (1,)))
        self.like(ways(Web([("a", "b", 1), ("c", "d", 1)]), "b", "c"), ())

    def test_makes_knot(self):
        found = 0
        for number in range(150):
            bars = grown(number, 9)
            for one, other in permutations(pins_of(bars), 2):
                right = plain_knot(bars + [(one, other, 1)])
                found += right
                self.assertIs(makes_knot(Web(bars), one, other), right)
        self.assertGreater(found, 50)

    def test_wrong_pins(self):
        web = self.web
        for call in (ways, shortest_way, makes_knot):
            for value in ODD:
                self.raises(BadWeb("web"), call, value, value, value)
            for value in NO_PINS:
                self.raises(NoPin(value), call, web, value, value)
                self.raises(NoPin(value), call, web, "a", value)
            self.raises(NoPin("y"), call, web, "y", "x")
            self.raises(Twice("d"), call, web, "d", "d")

    def test_web_of(self):
        for lengths in EVERY:
            many = len(lengths)
            bars = [(f"c{bar}", f"c{(bar + 1) % many}", length) for bar, length in enumerate(lengths)]
            self.like(web_of(Ring(lengths)).bars, tuple(bars))
        for value in ODD:
            self.raises(BadRing("ring"), web_of, value)

    def test_put_together(self):
        web = self.web
        other = Web([("x", "a", 1), ("x", "c", 2)])
        self.like(put_together(web, other).bars, web.bars + other.bars)
        self.like(put_together(other, web).bars, other.bars + web.bars)
        for value in ODD:
            self.raises(BadWeb("one"), put_together, value, value)
            self.raises(BadWeb("other"), put_together, web, value)
        self.raises(TooMany("bars", 10), put_together, Web([("a", "b", 1)] * 6), Web([("a", "b", 1)] * 5))
        self.raises(TooMany("pins", 8), put_together, Web([("p", name, 1) for name in "abcd"]),
                    Web([("q", name, 1) for name in "efg"]))
        self.raises(BadWeb("knot"), put_together, Web(KNOT[:5]), Web(KNOT[5:]))


class ReadTest(Case):

    def test_texts(self):
        for number in range(200):
            bars = grown(number)
            text = " / ".join(" ".join(map(str, bar)) for bar in bars)
            web = Web.read(text)
            self.like([str(web), web.bars], [text, tuple(bars)])

    def wrong_item(self, items):
        """The first item that cannot stand, None if the text is right."""
        bars = []
        for at in range(0, len(items) + 1, 4):
            part = items[at:at + 4]
            pins = pins_of(bars)
            for step in (0, 1):
                if len(part) <= step:
                    return at + step
                pin = part[step]
                if not (pin.isascii() and pin.isalnum() and pin == pin.lower() and pin[0].isalpha() and len(pin) < 13):
                    return at + step
                if pin not in pins and len(pins) == 8:
                    return at + step
                pins = sorted({*pins, pin})
            if part[0] == part[1] or plain_knot(bars + [(part[0], part[1], 1)]):
                return at + 1
            if len(part) < 3:
                return at + 2
            if part[2] not in map(str, range(1, 30)) and part[2] != "1000000":
                return at + 2
            bars.append((part[0], part[1], int(part[2])))
            if len(part) == 3:
                return None
            if part[3] != "/" or len(bars) == 10:
                return at + 3
        return len(items)

    def reads(self, items):
        """The text of these items is read, or the right item is told."""
        text = " ".join(items)
        wrong = self.wrong_item(items)
        if wrong is None:
            self.assertEqual(str(Web.read(text)), text)
        else:
            self.raises(BadText(0, wrong), Web.read, text)

    def test_each_item_changed(self):
        others = ("", "a", "b", "zz", "/", "0", "7", "01", "-1", "+1", "1000000", "1000001", "A", "a1b2c3d4e5f6",
                  "a1b2c3d4e5f6g", "1a", "a_", "\u00e4", "9" * 61, "a b 1 /", "/ c d 2", "1.0")
        for number in list(range(30)) + [57, 93, 121]:
            text = " / ".join(" ".join(map(str, bar)) for bar in grown(number))
            for items in bent_items(text.split(" "), others):
                self.reads(items)

    def test_knots(self):
        text = "a b 1 / a c 1 / a d 1 / b c 1 / b d 1"
        self.assertEqual(len(Web.read(text)), 5)
        for tail, item in ((" / c d 1", 21), (" / d c 1", 21), (" / c d x", 21), (" / c d", 21), (" / c e 1 / e d 1", 25),
                           (" / c", 21), (" / c e 1 / d e 1", 25), (" /", 20), (" / c x 0", 22)):
            self.raises(BadText(0, item), Web.read, text + tail)

    def test_bounds(self):
        ten = " / ".join(["a b 1"] * 10)
        self.assertEqual(len(Web.read(ten)), 10)
        self.raises(BadText(0, 39), Web.read, ten + " / a b 1")
        self.raises(BadText(0, 39), Web.read, ten + " /")
        self.raises(BadText(0, 39), Web.read, ten + " ")
        self.raises(BadText(0, 39), Web.read, ten + " / a b 1" * 10000)
        eight = "p a 1 / p b 1 / p c 1 / p d 1 / p e 1 / p f 1 / p g 1"
        self.assertEqual(len(Web.read(eight + " / a b 1").pins), 8)
        self.raises(BadText(0, 28), Web.read, eight + " / h a 1")
        self.raises(BadText(0, 29), Web.read, eight + " / a h 1")
        self.raises(BadText(0, 25), Web.read, eight[:-8] + " / g h 1")
        self.raises(BadText(0, 0), Web.read, "")
        self.raises(BadText(0, 3), Web.read, "a b 1 ")
        for value in ODD:
            if not isinstance(value, str):
                self.raises(BadText(0, 0), Web.read, value)


if __name__ == "__main__":
    unittest.main()

"""Texts of all classes that have one: read, written, and bent at each item."""

import unittest
from math import gcd

from ringbars.cuttings import Cutting, cuttings
from ringbars.errors import BadText
from ringbars.facts import Fact
from ringbars.families import Book, book_of
from ringbars.lineups import LineUp, pointing
from ringbars.rings import Ring
from ringbars.shapes import Shape, some_shape
from ringbars.texts import integer_of
from ringbars.webs import Web, web_of
from tests.common import CLEAR, CLOSED, ODD, Case, bent_items
from tests.test_desk_lines import is_number

SHAPES = [some_shape(Ring(lengths), cutting) for lengths in CLOSED for cutting in cuttings(len(lengths))[::9]]
VALUES = ([Ring(lengths) for lengths in CLOSED] + [cutting for many in range(3, 7) for cutting in cuttings(many)]
          + SHAPES + [shape.mirrored() for shape in SHAPES]
          + [pointing(many, lot) for many in range(3, 9) for lot in ((), (0, 2), (1, 2), (0, 1, 2))]
          + [book_of(Ring(lengths)) for lengths in CLEAR if len(lengths) < 7]
          + [Fact([1, -2, 3][:3], above) for above in (False, True)] + [Fact([0] * 6), Fact([-3, 0, 0, 3])]
          + [web_of(Ring(lengths)) for lengths in CLOSED] + [Web([("a", "b", 1)]), Web([("a", "b", 1), ("b", "a", 1)])])
CLASSES = (Ring, Cutting, Shape, LineUp, Book, Fact, Web)
OTHERS = ("", "0", "1", "2", "3", "5", "8", "-1", "-0", "01", "+1", "x", "/", "|", ":", "1 1", "/ 0", "1.0", "\u0661",
          "9" * 60, "9" * 61, "0 2", "| 1", "1000001")


def wrong_ring(items):
    """The first item that cannot stand in a text of a ring, None if it is right."""
    for at, item in enumerate(items):
        if at == 8 or not is_number(item, 1, 1000000):
            return at
    return None if len(items) > 2 else len(items)


def cutting_of(items):
    """How far a text begins with a cutting: the first item that cannot stand, or None; the index behind; how many."""
    if not items or not is_number(items[0], 3, 8):
        return 0, 0, 0
    many = int(items[0])
    if items[1:2] != [":"]:
        return 1, 0, 0
    at, ahead = 2, []
    for number in range(many - 3):
        if number:
            if items[at:at + 1] != ["/"]:
                return at, 0, 0
            at += 1
        if at >= len(items) or not is_number(items[at], ahead[-1][0] if ahead else 0, many - 1):
            return at, 0, 0
        if at + 1 >= len(items) or not is_number(items[at + 1]):
            return at + 1, 0, 0
        pair = int(items[at]), int(items[at + 1])
        far = 1 < pair[1] - pair[0] < many - 1 and pair[1] < many
        crossing = any(a < pair[0] < b < pair[1] or pair[0] < a < pair[1] < b for a, b in ahead)
        if not far or crossing or ahead and pair <= ahead[-1]:
            return at + 1, 0, 0
        ahead.append(pair)
        at += 2
    return None, at, many


def wrong_cutting(items):
    """The first item that cannot stand in a text of a cutting, None if it is right."""
    wrong, at, _ = cutting_of(items)
    if wrong is None and at < len(items):
        return at
    return wrong


def wrong_shape(items):
    """The first item that cannot stand in a text of a shape, None if it is right."""
    wrong, at, many = cutting_of(items)
    if wrong is not None:
        return wrong
    if items[at:at + 1] != ["|"]:
        return at
    numbers = []
    for place in range(at + 1, at + many - 1):
        if place >= len(items) or not is_number(items[place], 1 if not numbers else 0):
            return place
        numbers.append(int(items[place]))
    at = at + many - 1
    if gcd(*numbers) > 1:
        return at - 1
    if items[at:at + 1] != ["|"]:
        return at
    for place in range(at + 1, at + many - 1):
        if place >= len(items) or items[place] not in ("-1", "0", "1"):
            return place
    return at + many - 1 if len(items) > at + many - 1 else None


class TextsTest(Case):

    def test_read_and_written(self):
        for value in VALUES:
            kind = type(value)
            told = kind.read(str(value))
            self.assertIs(type(told), kind)
            self.assertEqual(told, value)
            self.assertEqual(str(told), str(value))
            self.assertEqual([name for name in vars(told)], [name for name in vars(value)])
            for name, part in vars(value).items():
                self.assertEqual(getattr(told, name), part)

    def test_equal_to_no_value_of_another_class(self):
        some = VALUES[::17] + [str(VALUES[0]), (3, 4, 5)]
        for one in some:
            for other in some:
                if type(one) is not type(other):
                    self.assertIs(one == other, False)
                    self.assertIs(one != other, True)
            for other in ODD:
                self.assertIs(one == other, False)

    def test_what_is_no_string(self):
        for kind in CLASSES:
            for value in ODD + (VALUES[0], b"3 4 5", ["3", "4", "5"]):
                if not isinstance(value, str):
                    self.raises(BadText(0, 0), kind.read, value)
            for text in ("", " ", "\n", "x" * 100000):
                self.raises(BadText(0, 0), kind.read, text)

    def test_signs_more(self):
        for value in VALUES[::3]:
            text, kind = str(value), type(value)
            items = text.split(" ")
            self.raises(BadText(0, 0), kind.read, " " + text)
            for tail in (" ", "  "):
                self.raises(BadText(0, len(items)), kind.read, text + tail)
            for sign in ("\n", "\t", "\u00a0", "_", "+", "x!"):
                self.raises(BadText(0, len(items) - 1), kind.read, text + sign)

    def bend(self, kind, items, wrong):
        """The text of these items is read, or the right item is told."""
        text = " ".join(items)
        right = wrong(text.split(" "))
        if right is None:
            self.assertEqual(str(kind.read(text)), text)
        else:
            self.raises(BadText(0, right), kind.read, text)

    def test_bent_at_each_item(self):
        for kind, wrong, step in ((Ring, wrong_ring, 1), (Cutting, wrong_cutting, 3), (Shape, wrong_shape, 5)):
            for value in [value for value in VALUES if type(value) is kind][::step]:
                for items in bent_items(str(value).split(" "), OTHERS):
                    self.bend(kind, items, wrong)

    def test_integers(self):
        for number in (0, 1, -1, 10, -99, 10 ** 59, -(10 ** 59), 10 ** 60 - 1, 1 - 10 ** 60):
            self.like(integer_of(str(number)), number)
        for item in ("", "-", "+1", "01", "-01", "-0", "1_0", "1.0", "x", " 1", "1 ", "\u0661", "\u00b2", "--1",
                     "1" + "0" * 60, "-1" + "0" * 60, "1" * 99999):
            self.assertIsNone(integer_of(item))


if __name__ == "__main__":
    unittest.main()

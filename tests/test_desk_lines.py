"""ringbars.desk_lines: the lines of a desk, read word by word."""

import unittest

from ringbars.desk_lines import ASKS, DEEDS, read_line
from ringbars.errors import BadText
from ringbars.facts import Fact
from ringbars.rings import Ring
from tests.common import ODD, Case, bent_items

RIGHT_DEEDS = ("put", "length", "begin", "backwards", "join", "cut", "drop", "bars", "tell", "strike")
RIGHT_ASKS = ("names", "show", "sort", "closes", "clear", "same", "apart", "round", "pieces", "three", "cells", "holes",
              "point", "against", "walls", "slack", "size", "whole", "book", "least", "set", "facts", "fact", "can",
              "judge")
# What stands behind each first word: N a name, B a number, B.. one or more, R a ring, F a fact.
FORMS = {"put": "N R", "length": "N B B", "begin": "N B", "backwards": "N", "join": "N B", "cut": "N B B", "drop": "N",
         "bars": "B", "tell": "F", "strike": "B..", "names": "", "show": "N", "sort": "N B..", "closes": "N",
         "clear": "N", "same": "N N", "apart": "N B B", "round": "N", "pieces": "N", "three": "N", "cells": "N",
         "holes": "N", "point": "N B..", "against": "N B B", "walls": "N", "slack": "N B", "size": "N", "whole": "N",
         "book": "N", "least": "N", "set": "", "facts": "", "fact": "B", "can": "", "judge": "F"}
SAMPLES = {"N": ("a", "b1"), "B": ("0", "7"), "B..": ("0", "3 1 4 1"), "R": ("3 4 5", "1 1 2 1000000 5 1 1 9"),
           "F": ("least 0 1 -3", "above 1 2 3 -1 -2 0")}
NAMES = ("a", "b1", "zz", "put", "least", "facts", "a1b2c3d4e5f6")
OTHERS = ("", "a", "b1", "0", "7", "00", "-1", "01", "+1", "x_", "/", "least", "above", "put", "facts", "3 4 5", "A",
          "a1b2c3d4e5f6", "a1b2c3d4e5f6g", "1000000", "1000001", "9" * 60, "9" * 61, "1a", "-3", "\u0661", "1.0")


def is_number(item, least=0, most=None):
    """Whether an item is an integer, from least to most, as texts have them."""
    digits = item[1:] if item[:1] == "-" else item
    if not (digits.isascii() and digits.isdigit()) or len(digits) > 60 or item != str(int(item)):
        return False
    return int(item) >= least and (most is None or int(item) <= most)


def is_name(item):
    """Whether an item is a name."""
    return item.isascii() and item.isalnum() and item == item.lower() and item[0].isalpha() and len(item) < 13


def wrong_item(items):
    """The index of the first item that cannot stand in a line, None if it is right."""
    if items[0] not in FORMS:
        return 0
    at = 1
    for kind in FORMS[items[0]].split():
        least, most, fits = {"N": (1, 1, is_name), "B": (1, 1, is_number), "B..": (1, None, is_number),
                             "R": (3, 8, lambda item: is_number(item, 1, 1000000)),
                             "F": (4, 7, lambda item: is_number(item, -3, 3))}[kind]
        end = len(items) if most is None or kind in "RF" else at + 1
        for place in range(at, end):
            if place >= len(items):
                return place
            if kind == "F" and place == at:
                if items[place] not in ("least", "above"):
                    return place
            elif not fits(items[place]) or most is not None and place - at >= most:
                return place
        if end - at < least:
            return end
        at = end
    return at if at < len(items) else None


def lines_of(word):
    """Some right lines with this first word."""
    rows = [word]
    for kind in FORMS[word].split():
        rows = [row + " " + more for row in rows for more in SAMPLES[kind]]
    return rows


class DeskLinesTest(Case):

    def test_examples(self):
        self.like([read_line("cut ab 2 7"), read_line("strike 2 0"), read_line("put a 3 4 5")[2] == Ring([3, 4, 5]),
                   read_line("tell above 1 -1 0")[1] == Fact([1, -1, 0], True)],
                  [("cut", "ab", 2, 7), ("strike", 2, 0), True, True])
        self.raises(BadText(0, 4), read_line, "put a 3 4")

    def test_words(self):
        self.like([DEEDS, ASKS], [RIGHT_DEEDS, RIGHT_ASKS])
        self.assertEqual(tuple(FORMS), DEEDS + ASKS)

    def test_right_lines(self):
        for word in FORMS:
            for line in lines_of(word):
                told = read_line(line)
                self.assertEqual(type(told), tuple)
                self.assertEqual(" ".join(map(str, told)), line)
                for value, kind in zip(told, ["N"] + FORMS[word].split()):
                    right = {"N": str, "B": int, "B..": int, "R": Ring, "F": Fact}[kind]
                    self.assertIs(type(value), right)
        self.like(read_line("names"), ("names",))
        self.like(read_line("sort a 3 3 99 0"), ("sort", "a", 3, 3, 99, 0))
        self.like(read_line("put put 1 1 1")[:2], ("put", "put"))
        self.like(read_line("strike" + " 0" * 40000), ("strike",) + (0,) * 40000)
        self.like(read_line("bars " + "9" * 60), ("bars", int("9" * 60)))

    def reads(self, items):
        """The line of these items is read, or the right item is told."""
        line, wrong = " ".join(items), wrong_item(items)
        if wrong is None:
            self.assertEqual(" ".join(map(str, read_line(line))), line)
        else:
            self.raises(BadText(0, wrong), read_line, line)

    def test_each_item_changed(self):
        for word in FORMS:
            for line in lines_of(word)[:3] + lines_of(word)[-1:]:
                for items in bent_items(line.split(" "), OTHERS):
                    self.reads(items)

    def test_signs_more(self):
        for line, item in (("", 0), (" names", 0), ("names ", 1), ("names\n", 0), ("Names", 0), ("show  a", 1),
                           ("show a\n", 1), ("show", 1), ("strike", 1), ("strike 0 ", 2), ("sort a", 2),
                           ("sort a 0 -1", 3), ("put a 1 2 3 4 5 6 7 8 9", 10), ("put a 1 2 3 ", 5), ("tell", 1),
                           ("tell least", 2), ("tell least 1 2", 4), ("tell 1 2 3", 1), ("judge above 1 2 4", 4),
                           ("judge above 1 1 1 1 1 1 1", 8), ("bars -0", 1), ("bars 3 3", 2), ("desk", 0),
                           ("same a", 2), ("same a b c", 3), ("can 1", 1), ("set 4", 1), ("fact", 1), ("fact 0 1", 2)):
            self.raises(BadText(0, item), read_line, line)

    def test_no_strings(self):
        for value in ODD + (["names"], ("names",), b"names"):
            if not isinstance(value, str):
                self.raises(BadText(0, 0), read_line, value)


if __name__ == "__main__":
    unittest.main()

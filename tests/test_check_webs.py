"""ringbars.check_webs: whether papers of webs are right."""

import unittest
from itertools import permutations, product

from ringbars.check_webs import shows_lie
from ringbars.errors import BadWeb
from ringbars.takenapart import Lies, LoopTooLong, can_lie
from ringbars.webs import Web
from tests.common import HUGE, ODD, Case, as_lists, bent_papers
from tests.pins import grown, is_apart, length_of, loop_of, pins_of, ways


def is_loop(bars, bar, way):
    """Whether they are a bar and a way of others, less long, between its pins."""
    if type(bar) is not int or not 0 <= bar < len(bars) or not isinstance(way, tuple):
        return False
    if any(type(one) is not int for one in way) or bar in way:
        return False
    return way in ways(bars, *bars[bar][:2]) and length_of(bars, way) < bars[bar][2]


def all_lies(bars, most):
    """All rows that take a web apart, with spans up to a number: pin by pin, in any order."""
    found = []
    for order in permutations(pins_of(bars), len(pins_of(bars)) - 1):
        rows = [()]
        for at, pin in enumerate(order):
            longer = []
            for row in rows:
                others = near(bars, row, pin, order[:at])
                if len(others) > 2:
                    continue
                spans = range(most + 1) if len(others) == 2 else (None,)
                longer += [row + ((pin, others, span),) for span in spans]
            rows = longer
        found += rows
    return found


def near(bars, rows, pin, gone):
    """The pins that a bar joins to one, or whose span to it was told, but for those that are gone."""
    told = {far for bar in bars if pin in bar[:2] for far in bar[:2]}
    told |= {far for _, others, span in rows if len(others) == 2 and pin in others for far in others}
    return tuple(sorted(told - {pin} - set(gone)))


class CheckWebsTest(Case):

    def test_examples(self):
        web = Web([("a", "b", 3), ("b", "c", 1), ("a", "d", 5), ["d", "c", 2]])
        flat = Web([("a", "b", 3), ("b", "c", 2), ("c", "a", 2)])
        self.like([shows_lie(flat, Lies([["a", ["b", "c"], 2], ["b", ["c"], None]])),
                   shows_lie(flat, Lies([["a", ["b", "c"], 1], ["b", ["c"], None]])),
                   shows_lie(flat, LoopTooLong(0, [2, 1]))], [True, False, False])
        self.assertIs(shows_lie(web, Lies([["b", ["a", "c"], 4], ["d", ["a", "c"], 4], ["c", ["a"], None]])), True)

    def test_what_can_lie_tells(self):
        for number in range(400):
            web = Web(grown(number))
            paper = can_lie(web)
            self.assertIs(shows_lie(web, paper), True)
            self.assertIs(shows_lie(web, type(paper)(*as_lists(paper.parts))), True)

    def test_any_order_and_any_spans(self):
        found = []
        for number in range(60):
            bars = grown(number, 5, 4, 3)
            web = Web(bars)
            rows = all_lies(bars, 6)
            for row in rows[::1 + len(rows) // 300]:
                right = is_apart(bars, row)
                self.assertIs(shows_lie(web, Lies(as_lists(row))), right, (bars, row))
                found.append(right)
            if loop_of(bars) is not None:
                self.assertFalse(any(is_apart(bars, row) for row in rows))
            else:
                self.assertTrue(any(is_apart(bars, row) for row in rows), bars)
        self.assertTrue(found.count(True) > 200 and found.count(False) > 200)

    def test_any_loop(self):
        found = 0
        for number in range(120):
            bars = grown(number, 6, 5, 6)
            web = Web(bars)
            every = {way for one, other in permutations(pins_of(bars), 2) for way in ways(bars, one, other)}
            for bar, way in product(range(len(bars)), sorted(every)):
                right = is_loop(bars, bar, way)
                found += right
                self.assertIs(shows_lie(web, LoopTooLong(bar, list(way))), right)
        self.assertGreater(found, 30)

    def test_bent(self):
        found = {}
        for number in range(60):
            bars = grown(number, 7, 6, 4)
            web = Web(bars)
            paper = can_lie(web)
            for bad in bent_papers(paper):
                if type(paper) is Lies:
                    right = is_apart(bars, bad.rows)
                else:
                    right = is_loop(bars, bad.bar, bad.way)
                self.assertIs(shows_lie(web, bad), right, (bars, bad.parts))
                found[paper.word, right] = found.get((paper.word, right), 0) + 1
            self.no_papers(lambda value: shows_lie(web, value), paper)
        self.assertGreater(found["lies", False], 500)
        self.assertGreater(found["looptoolong", False], 200)
        self.assertIn(("lies", True), found)

    def test_rows_exchanged_and_doubled(self):
        for number in range(60):
            bars = grown(number, 7, 6, 4)
            paper = can_lie(Web(bars))
            if paper:
                for order in list(permutations(paper.rows))[:60]:
                    self.assertIs(shows_lie(Web(bars), Lies(order)), is_apart(bars, order))
                for pin, other in product(pins_of(bars), repeat=2):
                    rows = [(other if row[0] == pin else row[0],) + row[1:] for row in paper.rows]
                    self.assertIs(shows_lie(Web(bars), Lies(rows)), is_apart(bars, tuple(rows)))

    def test_spans(self):
        line = Web([("a", "b", 2), ("b", "c", 3)])
        for span in range(-2, 8):
            right = 1 <= span <= 5
            self.assertIs(shows_lie(line, Lies([("b", ("a", "c"), span), ("a", ("c",), None)])), right)
        for span in (True, "3", None, (3,), 3.0, HUGE):
            self.assertIs(shows_lie(line, Lies([("b", ("a", "c"), span), ("a", ("c",), None)])), False)
        for rows in ([("b", ("c", "a"), 3), ("a", ("c",), None)], [("b", ("a", "c"), 3)],
                     [("b", ("a", "c"), 3), ("a", ("c",), None), ("c", (), None)],
                     [("b", ("a", "c"), 3), ("a", ("c",), 3)], [("b", ("a", "c"), 3), ("a", (), None)],
                     [("b", ("a", "c"), 3), ("b", ("c",), None)], [("a", ("b",), None), ("b", ("a", "c"), 3)],
                     [("b", "ac", 3), ("a", ("c",), None)], [("b", ("a", "c"), 3), ("x", ("c",), None)],
                     [], None, "ab", [("b",), ("a",)], [("b", ("a", "c"), 3, 0), ("a", ("c",), None)]):
            self.assertIs(shows_lie(line, Lies(rows)), False, rows)
        self.assertIs(shows_lie(line, Lies([("a", ("b",), None), ("b", ("c",), None)])), True)
        self.assertIs(shows_lie(line, Lies([("a", ("b",), None), ("c", ("b",), None)])), True)
        even = Web([("a", "b", 2), ("b", "c", 2)])
        self.assertIs(shows_lie(even, Lies([("b", ("a", "c"), 0), ("a", ("c",), None)])), True)
        self.assertIs(shows_lie(even, Lies([("b", ("a", "c"), False), ("a", ("c",), None)])), False)

    def test_a_span_told_twice(self):
        # Two pins are taken away between a and c: both rows tell one span.
        web = Web([("a", "b", 3), ("b", "c", 1), ("a", "d", 5), ("d", "c", 2)])
        for one, other in product(range(6), repeat=2):
            rows = [("b", ("a", "c"), one), ("d", ("a", "c"), other), ("a", ("c",), None)]
            self.assertIs(shows_lie(web, Lies(rows)), one == other and 3 <= one <= 4)
        joined = web.with_bar("c", "a", 4)
        for one, other in product(range(6), repeat=2):
            rows = [("b", ("a", "c"), one), ("d", ("a", "c"), other), ("a", ("c",), None)]
            self.assertIs(shows_lie(joined, Lies(rows)), one == other == 4)

    def test_pins_apart(self):
        web = Web([("a", "b", 1), ("c", "d", 2)])
        for order in permutations("abcd", 3):
            left, rows = list("abcd"), []
            for pin in order:
                left.remove(pin)
                far = {"a": "b", "b": "a", "c": "d", "d": "c"}[pin]
                rows.append((pin, (far,) if far in left else (), None))
            self.assertIs(shows_lie(web, Lies(rows)), True)
            self.assertIs(shows_lie(web, Lies(rows[:2] + [(rows[2][0], ("a", "b"), None)])), False)

    def test_three_others(self):
        star = Web([("p", "a", 1), ("p", "b", 1), ("p", "c", 1)])
        rest = [("a", (), None), ("b", (), None)]
        for others in (("a", "b", "c"), ("a", "b"), ("b", "c"), ("a",), ()):
            for span in (None, 0, 1, 2):
                self.assertIs(shows_lie(star, Lies([("p", others, span)] + rest)), False)
        self.assertIs(shows_lie(star, Lies([("a", ("p",), None), ("p", ("b", "c"), 2), ("b", ("c",), None)])), True)

    def test_a_way_that_meets_a_pin_twice(self):
        web = Web([("a", "b", 9), ("a", "c", 1), ("c", "d", 1), ("d", "c", 1), ("c", "b", 1), ("b", "e", 1)])
        for way, right in (((1, 4), True), ((1, 2, 3, 4), False), ((1, 3, 2, 4), False), ((1, 1, 1, 4), False),
                           ((1, 4, 5, 5), False), ((4, 1), False), ((1,), False), ((1, 5, 4), False), ((), False)):
            self.assertIs(shows_lie(web, LoopTooLong(0, way)), right)

    def test_doubled_bars(self):
        same, unlike = Web([("a", "b", 2), ("b", "a", 2)]), Web([("a", "b", 2), ("b", "a", 3)])
        self.assertIs(shows_lie(same, Lies([("a", ("b",), None)])), True)
        self.assertIs(shows_lie(unlike, Lies([("a", ("b",), None)])), False)
        for bar, way in product(range(2), ([0], [1], [], [0, 1], [True], [False], [2], [-1])):
            self.assertIs(shows_lie(same, LoopTooLong(bar, way)), False)
            self.assertIs(shows_lie(unlike, LoopTooLong(bar, way)), bar == 1 and way == [0] and way[0] is not False)
        for bar in (True, -1, 2, "1", None, HUGE):
            self.assertIs(shows_lie(unlike, LoopTooLong(bar, [0])), False)

    def test_wrong(self):
        for value in ODD:
            self.raises(BadWeb("web"), shows_lie, value, value)
        one = Web([("a", "b", 1)])
        self.assertIs(shows_lie(one, Lies([("b", ("a",), None)])), True)
        for value in ODD:
            self.assertIs(shows_lie(one, value), False)
            self.assertIs(shows_lie(one, Lies(value)), False)
            self.assertIs(shows_lie(one, LoopTooLong(value, value)), False)


if __name__ == "__main__":
    unittest.main()

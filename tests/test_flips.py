"""ringbars.flips: flips that lead spans and places along."""

import unittest
from fractions import Fraction
from itertools import product

from ringbars.cuttings import Cutting, cuttings, flips_between
from ringbars.errors import BadCutting, BadRing, BadSpans, Misfit, NoDiagonal, TooLong, TooMany
from ringbars.fields import field_tips, in_field
from ringbars.flips import Flips, flipped_place, flipped_spans, led_to
from ringbars.rings import Ring
from ringbars.ties import spans_of, ties_of
from ringbars.whole import spans_at, whole_spans
from tests.common import CLOSED, HUGE, ODD, Case, as_lists
from tests.polys import fractions_of, pairs
from tests.test_fields import NO_PLACES

SMALL = [lengths for lengths in CLOSED if 4 <= len(lengths) <= 6 and max(lengths) < 5] + [[2, 2, 2, 2, 2], [4, 3, 3, 2, 2]]


def come_for(cutting, diagonal):
    """The diagonal that comes for one, and the corners round both."""
    ends = [set(three) for three in cutting.triangles if set(diagonal) <= set(three)]
    come = tuple(sorted((ends[0] | ends[1]) - set(diagonal)))
    return come, sorted(ends[0] | ends[1])


def led(lengths, cutting, spans, diagonal):
    """The spans behind a flip, by the corners in their order round."""
    come, around = come_for(cutting, diagonal)
    told = dict(zip(cutting.diagonals, spans))
    many = len(lengths)
    for bar in range(many):
        told[tuple(sorted((bar, (bar + 1) % many)))] = lengths[bar]
    sides = [told[tuple(sorted((around[at], around[(at + 1) % 4])))] for at in range(4)]
    told[come] = max(sides[0] + sides[2], sides[1] + sides[3]) - told[diagonal]
    others = sorted([one for one in cutting.diagonals if one != diagonal] + [come])
    return others, tuple(told[one] for one in others)


class FlipsTest(Case):

    def setUp(self):
        self.square, self.across = Ring([1, 1, 1, 1]), Cutting.fan(4, 0)
        self.twos, self.fan = Ring([2, 2, 2, 2, 2]), Cutting.fan(5, 0)

    def test_examples(self):
        square, across, twos, fan = self.square, self.across, self.twos, self.fan
        self.like([flipped_spans(square, across, (0,), (0, 2))[1],
                   flipped_place(square, across, [(1, 3)], (0, 2))[1],
                   flipped_spans(twos, fan, (2, 4), (0, 3)) == (Cutting(5, [(0, 2), (2, 4)]), (2, 0))],
                  [(2,), ((5, 3),), True])
        self.like(led_to(twos, fan, (2, 4), Cutting(5, [(0, 2), (2, 4)])).rows, (((0, 3), (2, 0)),))

    def test_flipped_spans(self):
        for lengths in SMALL:
            ring = Ring(lengths)
            for cutting in cuttings(len(lengths)):
                rows = whole_spans(ring, cutting)[:40]
                for diagonal in cutting.diagonals:
                    found = []
                    for row in rows:
                        other, told = flipped_spans(ring, cutting, list(row), list(diagonal))
                        self.like([other.diagonals, told], [tuple(led(lengths, cutting, row, diagonal)[0]),
                                                            led(lengths, cutting, row, diagonal)[1]])
                        self.assertEqual(ties_of(ring, other, told), ties_of(ring, cutting, row))
                        come = come_for(cutting, diagonal)[0]
                        self.assertEqual(flipped_spans(ring, other, told, come), (cutting, row))
                        found.append(told)
                    if len(rows) < 40 and rows:
                        self.assertEqual(sorted(found), list(whole_spans(ring, other)))

    def test_flipped_places(self):
        steps = [Fraction(number, by) for number, by in ((0, 1), (1, 3), (1, 1), (3, 2), (2, 1), (7, 3))]
        for lengths in [row for row in SMALL if len(row) < 6]:
            ring = Ring(lengths)
            for cutting in cuttings(len(lengths)):
                for place in product(steps, repeat=len(lengths) - 3):
                    for diagonal in cutting.diagonals:
                        self.check_place(ring, cutting, place, diagonal)

    def check_place(self, ring, cutting, place, diagonal):
        if not in_field(ring, cutting, pairs(place)):
            self.raises(BadSpans("place"), flipped_place, ring, cutting, pairs(place), diagonal)
            return
        other, told = flipped_place(ring, cutting, as_lists(pairs(place)), list(diagonal))
        right = led(ring.lengths, cutting, place, diagonal)
        self.like([list(other.diagonals), told], [right[0], pairs(right[1])])
        self.assertTrue(in_field(ring, other, told))
        come = come_for(cutting, diagonal)[0]
        self.assertEqual(flipped_place(ring, other, told, come), (cutting, pairs(place)))

    def test_five_flips_lead_home(self):
        for lengths in ([2, 2, 2, 2, 2], [4, 3, 3, 2, 2], [3, 3, 2, 1, 1]):
            ring = Ring(lengths)
            for cutting in cuttings(5):
                for row in whole_spans(ring, cutting):
                    for first in cutting.diagonals:
                        self.check_home(ring, cutting, row, first)

    def check_home(self, ring, cutting, row, first):
        # Each flip is of the diagonal that the last flip left.
        now, told, gone = cutting, row, first
        place = tuple((span, 1) for span in row)
        for _ in range(5):
            before = now
            other, place = flipped_place(ring, now, place, gone)
            now, told = flipped_spans(ring, now, told, gone)
            self.assertEqual(other, now)
            (gone,) = [one for one in now.diagonals if one in before.diagonals]
        self.assertEqual((now, told), (cutting, row))
        self.assertEqual(place, tuple((span, 1) for span in row))

    def test_fields_to_fields(self):
        for lengths in ([1, 1, 1, 1, 1], [3, 2, 2, 1, 1], [2, 1, 2, 2, 1, 1]):
            ring = Ring(lengths)
            for cutting in cuttings(len(lengths))[::3]:
                for tip in field_tips(ring, cutting):
                    for diagonal in cutting.diagonals:
                        other, told = flipped_place(ring, cutting, tip, diagonal)
                        self.assertTrue(in_field(ring, other, told))
                        self.assertEqual(len(fractions_of(told)), len(tip))

    def test_led_to(self):
        for lengths in SMALL:
            ring, every = Ring(lengths), cuttings(len(lengths))
            for cutting in every[::3]:
                rows = whole_spans(ring, cutting)
                for other in every[::2]:
                    for row in rows[::max(1, len(rows) // 3)]:
                        self.check_led(ring, cutting, row, other)

    def check_led(self, ring, cutting, row, other):
        paper = led_to(ring, cutting, list(row), other)
        self.assertIs(type(paper), Flips)
        self.assertEqual(paper, led_to(ring, cutting, row, other))
        self.assertEqual(len(paper.rows), len(flips_between(cutting, other)) - 1)
        now, told = cutting, row
        for diagonal, spans in paper.rows:
            self.assertIn(diagonal, now.diagonals)
            now, told = flipped_spans(ring, now, told, diagonal)
            self.like(spans, told)
        self.assertEqual(now, other)
        self.assertEqual(told, spans_of(ring, other, ties_of(ring, cutting, row)))

    def test_no_rows_to_itself(self):
        self.like(led_to(self.twos, self.fan, [2, 4], Cutting.fan(5, 0)).rows, ())
        self.like(led_to(Ring([2, 2, 2]), Cutting(3, []), [], Cutting(3, [])).rows, ())

    def test_eight_bars(self):
        ring, fan, other = Ring([12] * 8), Cutting.fan(8, 0), Cutting.fan(8, 3)
        row = spans_at(ring, fan, 77777)
        self.check_led(ring, fan, row, other)
        place = [(number, 7) for number in (80, 90, 85, 92, 81)]
        cutting, told = flipped_place(Ring([12] * 8), fan, place, (0, 4))
        self.assertTrue(in_field(ring, cutting, told))
        long = Ring([1000000] * 8)
        self.assertEqual(flipped_place(long, fan, [(1000000, 1)] * 5, (0, 2))[1][-1], (1000000, 1))

    def test_wrong(self):
        twos, fan = self.twos, self.fan
        for odd in ODD:
            self.raises(BadRing("ring"), flipped_spans, odd, odd, odd, odd)
            self.raises(BadRing("ring"), flipped_place, odd, odd, odd, odd)
            self.raises(BadRing("ring"), led_to, odd, odd, odd, odd)
            self.raises(BadRing("bars"), flipped_place, Ring([9, 1, 1]), odd, odd, odd)
            for call in (flipped_spans, flipped_place, led_to):
                self.raises(BadCutting("cutting"), call, twos, odd, odd, odd)
            self.raises(BadCutting("other"), led_to, twos, fan, (1, 2), odd)
            self.raises(NoDiagonal(odd), flipped_spans, twos, fan, (1, 2), odd)
            self.raises(NoDiagonal(odd), flipped_place, twos, fan, [(1, 2), (9, 1)], odd)
        for odd in ODD + ([0], [0, 2, 4], [0, True], [0, None], ["0", "2"]):
            if odd != (1, 2):
                self.raises(BadSpans("spans"), flipped_spans, twos, fan, odd, odd)
                self.raises(BadSpans("spans"), led_to, twos, fan, odd, odd)
        for odd in NO_PLACES:
            self.raises(BadSpans("place"), flipped_place, twos, fan, odd, None)
        for diagonal in ((0, 1), (0, 4), (1, 3), (3, 0), (2, 0), [0, 2, 3], (False, 2), ((0, 2),)):
            self.raises(NoDiagonal(diagonal), flipped_spans, twos, fan, (9, 9), diagonal)
            self.raises(NoDiagonal(diagonal), flipped_place, twos, fan, [(9, 1), (9, 1)], diagonal)
        for row in ((1, 2), (0, 0), (0, 4), (2, 6), (-2, 2), (HUGE, HUGE)):
            self.raises(BadSpans("spans"), flipped_spans, twos, fan, row, (0, 2))
            self.raises(BadSpans("spans"), led_to, twos, fan, row, fan)

    def test_order_of_errors(self):
        fan, four, long = self.fan, self.across, Ring([13, 5, 4, 4, 1])
        places = [(9, 1), (9, 1)]
        for call, row in ((flipped_spans, (1, 2)), (flipped_place, places)):
            self.raises(NoDiagonal((1, 3)), call, Ring([99, 1, 1, 1]), fan, row, (1, 3))
            self.raises(Misfit("bars"), call, Ring([99, 1, 1, 1]), fan, row, (0, 2))
            self.raises(TooLong(2), call, Ring([1, 1, 99, 1, 1]), fan, row, (0, 2))
        self.raises(TooMany("length", 12), flipped_spans, long, fan, (1, 2), (0, 2))
        self.raises(BadSpans("place"), flipped_place, long, fan, places[:1] + [(99, 1)], (0, 2))
        self.raises(Misfit("bars"), led_to, Ring([99, 1, 1, 1]), fan, (1, 2), fan)
        self.raises(Misfit("bars"), led_to, Ring([99, 1, 1, 1, 1]), fan, (1, 2), four)
        self.raises(Misfit("bars"), led_to, Ring([99, 1, 1, 1]), fan, (1, 2), four)
        self.raises(TooLong(2), led_to, Ring([1, 1, 99, 1, 1]), fan, (1, 2), fan)
        self.raises(TooMany("length", 12), led_to, long, fan, (1, 2), fan)
        self.raises(BadSpans("spans"), led_to, self.twos, fan, (1, 2), fan)
        self.raises(BadSpans("spans"), led_to, long, fan, (1, 2, 3), None)
        self.raises(BadCutting("other"), led_to, Ring([99, 1, 1]), fan, (1, 2), None)

    def test_what_is_passed_stays(self):
        row, place = [2, 4], [[1, 1], [1, 1]]
        flipped_spans(self.twos, self.fan, row, [0, 2])
        flipped_place(self.twos, self.fan, place, [0, 2])
        led_to(self.twos, self.fan, row, Cutting.fan(5, 2))
        self.assertEqual([row, place], [[2, 4], [[1, 1], [1, 1]]])


if __name__ == "__main__":
    unittest.main()

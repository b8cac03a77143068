"""ringbars.whole: rows of whole spans."""

import unittest

from ringbars.cuttings import Cutting, cuttings
from ringbars.errors import BadCutting, BadNumber, BadRing, BadSpans, Misfit, TooLong, TooMany
from ringbars.fields import field_tips, in_field
from ringbars.rings import Ring
from ringbars.whole import many_by_cutting, many_by_sums, number_of, spans_at, whole_spans
from tests.common import CLOSED, HUGE, NO_INTEGERS, ODD, OPEN, Case
from tests.webs import many_sums, whole_rows

SMALL = [lengths for lengths in CLOSED if len(lengths) <= 6 and max(lengths) < 6]
MORE = [[2, 2, 2, 2, 2], [4, 4, 4, 4], [2, 3, 4, 3, 2, 2], [4, 3, 3, 2, 2], [6, 5, 4, 3], [2, 2, 2], [12, 11, 1]]


class WholeTest(Case):

    def setUp(self):
        self.twos, self.fan = Ring([2, 2, 2, 2, 2]), Cutting.fan(5, 0)

    def test_examples(self):
        twos, fan, five = self.twos, self.fan, Ring([1, 1, 1, 1, 1])
        self.like(whole_spans(twos, fan), ((0, 2), (2, 0), (2, 2), (2, 4), (4, 2), (4, 4)))
        self.like([many_by_cutting(twos, Cutting.fan(5, 2)), many_by_sums(twos), spans_at(twos, fan, 3),
                   number_of(twos, fan, [4, 2]), many_by_sums(Ring([2, 3, 4, 3, 2, 2]))], [6, 6, (2, 4), 4, 21])
        self.like([whole_spans(five, fan), whole_spans(Ring([2, 2, 2]), Cutting(3, []))], [(), ((),)])

    def test_against_all_rows(self):
        for lengths in SMALL + MORE:
            ring = Ring(lengths)
            for cutting in cuttings(len(lengths)):
                right = whole_rows(lengths, cutting.diagonals)
                self.like(whole_spans(ring, cutting), tuple(right))
                self.like(many_by_cutting(ring, cutting), len(right))
                for number, row in enumerate(right):
                    self.like(spans_at(ring, cutting, number), row)
                    self.like(number_of(ring, cutting, list(row)), number)
                for number in (-1, -HUGE, len(right), len(right) + 1, HUGE):
                    self.raises(BadNumber("number"), spans_at, ring, cutting, number)

    def test_sums(self):
        for lengths in SMALL + MORE:
            self.like(many_by_sums(Ring(lengths)), many_sums(lengths))
            for cutting in cuttings(len(lengths)):
                self.assertEqual(many_by_cutting(Ring(lengths), cutting), many_by_sums(Ring(lengths)))

    def test_odd_totals(self):
        for lengths in ([1, 1, 1], [3, 4, 4], [1, 1, 1, 2], [12, 12, 12, 12, 11]):
            ring, cutting = Ring(lengths), cuttings(len(lengths))[0]
            self.like([whole_spans(ring, cutting), many_by_sums(ring), many_by_cutting(ring, cutting)], [(), 0, 0])
            self.raises(BadNumber("number"), spans_at, ring, cutting, 0)

    def test_three_bars(self):
        ring, cutting = Ring([3, 4, 5]), Cutting(3, [])
        self.like([whole_spans(ring, cutting), many_by_sums(ring), many_by_cutting(ring, cutting),
                   spans_at(ring, cutting, 0), number_of(ring, cutting, [])], [((),), 1, 1, (), 0])
        self.raises(BadNumber("number"), spans_at, ring, cutting, 1)
        self.raises(BadSpans("spans"), number_of, Ring([1, 1, 1]), cutting, [])

    def test_many_rows(self):
        ring = Ring([12] * 8)
        for cutting in (Cutting.fan(8, 0), cuttings(8)[66], Cutting(8, [(0, 2), (2, 4), (4, 6), (0, 6), (0, 4)])):
            self.assertEqual(many_by_cutting(ring, cutting), many_by_sums(ring))
            self.raises(TooMany("spans", 400), whole_spans, ring, cutting)
            rows = [spans_at(ring, cutting, number) for number in range(62000, 62010)]
            self.assertEqual(rows, sorted(rows))
            for number in (0, 400, 401, 62250, 124500):
                row = spans_at(ring, cutting, number)
                self.assertTrue(in_field(ring, cutting, [(span, 1) for span in row]))
                self.assertEqual(number_of(ring, cutting, row), number)
            self.raises(BadNumber("number"), spans_at, ring, cutting, 124501)

    def test_about_four_hundred(self):
        found = []
        for lengths in ([3] * 8, [4, 4, 4, 4, 4, 4, 2], [12, 12, 12, 12, 12, 4], [4, 4, 4, 4, 3, 3, 4], [12, 12, 9, 9, 8],
                        [8, 8, 8, 8, 8, 8], [7, 7, 7, 7, 7, 7], [9, 8, 7, 7, 7, 8], [5, 5, 5, 5, 2, 2, 2, 2],
                        [8, 8, 8, 8, 8, 12], [4, 4, 3, 3, 3, 3, 2, 2], [4, 3, 3, 3, 3, 3, 3, 2], [4, 4, 4, 4, 4, 4, 4]):
            ring, cutting = Ring(lengths), cuttings(len(lengths))[-1]
            many = many_by_sums(ring)
            found.append(many)
            if many > 400:
                self.raises(TooMany("spans", 400), whole_spans, ring, cutting)
            else:
                rows = whole_spans(ring, cutting)
                self.assertEqual((len(rows), rows), (many, tuple(sorted(set(rows)))))
                self.assertEqual([number_of(ring, cutting, row) for row in rows[::40]], list(range(many))[::40])
        self.assertTrue(400 in found and max(found) > 400)

    def test_doubled(self):
        # Doubled lengths have twice the places of integers, even or odd, in the field.
        for lengths in ([1, 1, 1, 1, 1], [3, 2, 2, 1, 1], [2, 2, 1, 1, 2], [3, 1, 1, 1]):
            for cutting in cuttings(len(lengths)):
                ring = Ring([2 * length for length in lengths])
                places = [tuple((span // 2, 1) for span in row) for row in whole_spans(ring, cutting)]
                self.assertTrue(all(in_field(Ring(lengths), cutting, place) for place in places))
                tips = field_tips(Ring(lengths), cutting)
                self.assertTrue(set(tip for tip in tips if all(by == 1 for _, by in tip)) <= set(places))

    def test_wrong(self):
        twos, fan = self.twos, self.fan
        for odd in ODD:
            self.raises(BadRing("ring"), many_by_sums, odd)
            for call, more in ((whole_spans, ()), (many_by_cutting, ()), (spans_at, (odd,)), (number_of, (odd,))):
                self.raises(BadRing("ring"), call, odd, odd, *more)
                self.raises(BadCutting("cutting"), call, twos, odd, *more)
        for odd in NO_INTEGERS:
            self.raises(BadNumber("number"), spans_at, twos, fan, odd)
            self.raises(BadNumber("number"), spans_at, Ring([1, 1, 1, 13]), fan, odd)
        for odd in ODD + ([0], [0, 2, 4], [0, True], [0, None], ["0", "2"], {0: 1, 2: 1}, [[0], [2]], "02"):
            if odd != (1, 2):
                self.raises(BadSpans("spans"), number_of, twos, fan, odd)
                if odd not in ([], ()):
                    self.raises(BadSpans("spans"), number_of, Ring([1, 1, 13]), Cutting(3, []), odd)
        for row in ((1, 2), (0, 0), (0, 4), (2, 6), (-2, 2), (HUGE, HUGE), (2, -2), (0, 1), (6, 4)):
            self.raises(BadSpans("spans"), number_of, twos, fan, row)

    def test_order_of_errors(self):
        fan, four = self.fan, Cutting.fan(4, 0)
        long = Ring([13, 5, 4, 4, 1])
        for call, more in ((whole_spans, ()), (many_by_cutting, ()), (spans_at, (-1,)), (number_of, ((1, 2),))):
            self.raises(Misfit("bars"), call, Ring([99, 1, 1]), fan, *more)
            self.raises(TooLong(2), call, Ring([1, 1, 99, 1, 1]), fan, *more)
            self.raises(TooMany("length", 12), call, long, fan, *more)
        self.raises(Misfit("bars"), whole_spans, Ring([12] * 8), four)
        self.raises(BadSpans("spans"), number_of, long, fan, [1])
        self.raises(BadNumber("number"), spans_at, long, fan, None)
        self.raises(TooLong(1), many_by_sums, Ring([1, 99, 1]))
        self.raises(TooMany("length", 12), many_by_sums, Ring([13, 12, 12]))
        for lengths in OPEN:
            self.raises(TooLong(lengths.index(max(lengths))), many_by_sums, Ring(lengths))
        self.like(many_by_sums(Ring([12, 12, 12])), 1)

    def test_what_is_passed_stays(self):
        row = [4, 2]
        number_of(self.twos, self.fan, row)
        self.assertEqual(row, [4, 2])


if __name__ == "__main__":
    unittest.main()

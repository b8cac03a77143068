"""ringbars.ties: ties, and the whole spans that they tell."""

import unittest

from ringbars.cuttings import Cutting, cuttings
from ringbars.errors import BadCutting, BadNumber, BadRing, BadSpans, BadTies, Misfit, TooLong, TooMany
from ringbars.rings import Ring
from ringbars.ties import many_ties, spans_of, ties, ties_at, ties_of
from ringbars.whole import many_by_sums, number_of, spans_at, whole_spans
from tests.common import CLOSED, HUGE, NO_INTEGERS, ODD, OPEN, Case, as_lists
from tests.webs import all_ties, crossings

SMALL = [lengths for lengths in CLOSED if sum(lengths) <= 16] + [[2, 2, 2, 2, 2], [2, 2, 2], [12, 11, 1], [3, 4, 3, 2]]


class TiesTest(Case):

    def setUp(self):
        self.square, self.across = Ring([1, 1, 1, 1]), Cutting.fan(4, 0)
        self.twos, self.fan = Ring([2, 2, 2, 2, 2]), Cutting.fan(5, 0)

    def test_examples(self):
        square, across, twos, fan = self.square, self.across, self.twos, self.fan
        self.like([ties(square), ties_at(square, 1), many_ties(twos), ties(Ring([2, 2, 2]))],
                  [(((0, 1), (2, 3)), ((0, 3), (1, 2))), ((0, 3), (1, 2)), 6, (((0, 5), (1, 2), (3, 4)),)])
        self.like([spans_of(square, across, [(0, 1), (2, 3)]), ties_of(square, across, [2]),
                   spans_of(twos, fan, ties_of(twos, fan, (2, 4)))], [(0,), ((0, 3), (1, 2)), (2, 4)])

    def test_against_all(self):
        for lengths in SMALL:
            ring, right = Ring(lengths), all_ties(lengths)
            self.like(many_ties(ring), len(right))
            self.assertEqual(len(right), many_by_sums(ring))
            self.like(ties(ring), tuple(right))
            for number, row in enumerate(right):
                self.like(ties_at(ring, number), row)
            for number in (-1, -HUGE, len(right), HUGE):
                self.raises(BadNumber("number"), ties_at, ring, number)

    def test_spans_and_back(self):
        for lengths in SMALL:
            ring, right = Ring(lengths), all_ties(lengths)
            every = cuttings(len(lengths))
            for cutting in every if len(lengths) < 7 else every[::17]:
                rows = [crossings(lengths, cutting.diagonals, row) for row in right]
                self.assertEqual(tuple(sorted(rows)), whole_spans(ring, cutting))
                for row, told in zip(right, rows):
                    self.like(spans_of(ring, cutting, as_lists(row)), told)
                    self.like(ties_of(ring, cutting, list(told)), row)

    def test_many_ends(self):
        ring = Ring([12] * 8)
        for cutting in (Cutting.fan(8, 0), cuttings(8)[66], Cutting.fan(8, 5)):
            for number in (0, 1000, 77777, 124500):
                row = spans_at(ring, cutting, number)
                told = ties_of(ring, cutting, row)
                self.assertEqual(len(told), 48)
                self.assertEqual(crossings(ring.lengths, cutting.diagonals, told), row)
                self.like(spans_of(ring, cutting, told), row)
                other = Cutting.fan(8, 3)
                self.assertEqual(ties_of(ring, other, spans_of(ring, other, told)), told)

    def test_twenty_four_ends(self):
        ring = Ring([3] * 8)
        many = many_ties(ring)
        self.assertEqual(many, many_by_sums(ring))
        self.raises(TooMany("ties", 200), ties, ring)
        rows = [ties_at(ring, number) for number in range(many)]
        self.assertEqual(rows, sorted(set(rows)))
        self.raises(BadNumber("number"), ties_at, ring, many)
        for row in rows[::50]:
            told = spans_of(ring, Cutting.fan(8, 1), row)
            self.assertEqual(ties_of(ring, Cutting.fan(8, 1), told), row)
        self.raises(TooMany("ends", 24), many_ties, Ring([3] * 7 + [4]))
        self.raises(TooMany("ends", 24), ties, Ring([3] * 7 + [5]))
        self.raises(TooMany("ends", 24), ties_at, Ring([3] * 7 + [5]), -1)
        self.like(len(ties(Ring([12, 6, 6]))), 1)

    def test_about_two_hundred(self):
        found = []
        for lengths in ([2] * 8, [1, 2, 2, 3, 3, 4, 4, 5], [3, 3, 3, 3, 2, 2, 2, 2], [4, 4, 4, 4, 4, 4], [3, 3, 2, 2, 2, 2, 2, 2], [3, 3, 3, 3, 3, 3, 2],
                        [4, 3, 3, 3, 3, 2, 2, 2]):
            ring = Ring(lengths)
            many = many_ties(ring)
            found.append(many)
            if many > 200:
                self.raises(TooMany("ties", 200), ties, ring)
                rows = [ties_at(ring, number) for number in range(many)]
            else:
                rows = list(ties(ring))
            self.assertEqual(rows, all_ties(lengths))
        self.assertTrue(200 in found and max(found) > 200)

    def test_odd_totals(self):
        for lengths in ([1, 1, 1], [2, 2, 3, 2], [9, 7, 7], [3] * 7):
            ring = Ring(lengths)
            self.like([ties(ring), many_ties(ring)], [(), 0])
            self.raises(BadNumber("number"), ties_at, ring, 0)

    def test_no_ties(self):
        twos, fan = self.twos, self.fan
        right = ties_of(twos, fan, (2, 4))
        for bad in (right[:-1], right + right[-1:], right[::-1], right[1:] + right[:1], (), ((0, 1), (2, 3), (4, 5), (6, 7), (8, 9)),
                    tuple(pair[::-1] for pair in right), ((0, 5), (1, 4), (2, 3), (6, 9), (7, 8)),
                    right[:-1] + ((8, 10),), right[:-1] + ((-1, 9),), ((0, 2), (1, 3), (4, 7), (5, 6), (8, 9)),
                    right[:-1] + ((HUGE, HUGE),), ((0, 3), (1, 2), (4, 9), (5, 6), (7, 7))):
            self.raises(BadTies("ties"), spans_of, twos, fan, bad)
        self.like(spans_of(twos, fan, as_lists(right)), (2, 4))

    def test_one_pair_the_wrong_way_round(self):
        for bad in ([(1, 0), (2, 3)], [(0, 1), (3, 2)], [(3, 0), (1, 2)], [(0, 3), (2, 1)], [(1, 2), (3, 0)],
                    [(1, 2), (0, 3)], [(2, 3), (0, 1)]):
            self.raises(BadTies("ties"), spans_of, self.square, self.across, bad)

    def test_all_pairings_of_few_ends(self):
        for lengths in ([1, 1, 1, 1], [2, 1, 2, 1], [2, 2, 2], [3, 1, 1, 1]):
            ring, cutting = Ring(lengths), Cutting.fan(len(lengths), 0)
            right = all_ties(lengths)
            for row in self.pairings(list(range(sum(lengths)))):
                if row in right:
                    self.like(spans_of(ring, cutting, row), crossings(lengths, cutting.diagonals, row))
                else:
                    self.raises(BadTies("ties"), spans_of, ring, cutting, row)

    def pairings(self, ends):
        if not ends:
            return [()]
        return [((ends[0], ends[at]),) + row for at in range(1, len(ends))
                for row in self.pairings(ends[1:at] + ends[at + 1:])]

    def test_wrong(self):
        twos, fan = self.twos, self.fan
        for odd in ODD:
            for call, more in ((ties, ()), (many_ties, ()), (ties_at, (odd,)), (spans_of, (odd, odd)), (ties_of, (odd, odd))):
                self.raises(BadRing("ring"), call, odd, *more)
            for call in (spans_of, ties_of):
                self.raises(BadCutting("cutting"), call, twos, odd, odd)
        for odd in NO_INTEGERS:
            self.raises(BadNumber("number"), ties_at, twos, odd)
            self.raises(BadNumber("number"), ties_at, Ring([1, 99, 1]), odd)
        for odd in ODD + ([(0, 1), (2,)], [(0, 1), (2, 3, 4)], [(0, 1), (2, True)], [(0, 1), None], [(0, 1), "23"],
                          [(0, 1), {2: 1, 3: 1}], {(0, 1): 1}, [((0, 1), (2, 3))]):
            if odd not in ([], ()):
                self.raises(BadTies("ties"), spans_of, twos, fan, odd)
                self.raises(BadTies("ties"), spans_of, Ring([99, 1, 1]), fan, odd)
            if odd != (1, 2):
                self.raises(BadSpans("spans"), ties_of, twos, fan, odd)
        for row in ((1, 2), (0, 0), (0, 4), (2, 6), (-2, 2), (HUGE, HUGE)):
            self.raises(BadSpans("spans"), ties_of, twos, fan, row)

    def test_order_of_errors(self):
        fan, long = self.fan, Ring([13, 5, 4, 4, 1])
        for call, more in ((spans_of, ()), (ties_of, (1, 2))):
            self.raises(Misfit("bars"), call, Ring([99, 1, 1]), fan, more)
            self.raises(TooLong(2), call, Ring([1, 1, 99, 1, 1]), fan, more)
            self.raises(TooMany("length", 12), call, long, fan, more)
        for call, more in ((ties, ()), (many_ties, ()), (ties_at, (-1,))):
            for lengths in OPEN:
                self.raises(TooLong(lengths.index(max(lengths))), call, Ring(lengths), *more)
            self.raises(TooMany("length", 12), call, long, *more)
            self.raises(TooMany("length", 12), call, Ring([13, 7, 7]), *more)
            self.raises(TooMany("ends", 24), call, Ring([12, 7, 7]), *more)
        self.raises(BadTies("ties"), spans_of, long, fan, None)

    def test_three_bars(self):
        ring, cutting = Ring([4, 3, 3]), Cutting(3, [])
        (row,) = ties(ring)
        self.like([spans_of(ring, cutting, row), ties_of(ring, cutting, [])], [(), row])
        self.assertEqual(number_of(ring, cutting, ()), 0)


if __name__ == "__main__":
    unittest.main()

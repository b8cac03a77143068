"""ringbars.sizes: the size of fields, by lots and by bodies."""

import unittest
from fractions import Fraction
from itertools import combinations
from math import factorial

from ringbars.cuttings import Cutting, cuttings
from ringbars.errors import BadCutting, BadRing, Misfit, TooLong, TooMany
from ringbars.fields import field_tips
from ringbars.rings import Ring
from ringbars.sizes import Packed, packed, size_by_lots, size_of
from tests.common import CLOSED, ODD, OPEN, Case
from tests.polys import determinant, forms, fractions_of, size, value
from tests.test_fields import RINGS, some_cuttings


def body_size(body):
    """The size of a body."""
    rows = [[one - first for one, first in zip(tip, body[0])] for tip in body[1:]]
    return abs(determinant(rows)) / factorial(len(rows))


class SizesTest(Case):

    def test_examples(self):
        five, fan = Ring([1, 1, 1, 1, 1]), Cutting.fan(5, 0)
        self.like([size_by_lots(Ring([1, 1, 1, 1])), size_by_lots(five), size_of(five, fan),
                   size_of(five, Cutting.fan(5, 3)), size_by_lots(Ring([3, 1, 1, 1]))],
                  [(2, 1), (5, 2), (5, 2), (5, 2), (0, 1)])
        self.assertEqual(len(packed(five, fan).bodies), 3)
        self.like(size_by_lots(Ring([3, 2, 2, 1, 2])), (6, 1))

    def test_spans_one_after_another(self):
        for lengths in [row for row in CLOSED if len(row) > 3] + [[3, 2, 2, 1, 2], [7, 5, 3, 6, 4, 2]]:
            right = size(lengths)
            self.like(size_by_lots(Ring(lengths)), (right.numerator, right.denominator))

    def test_size_of(self):
        for lengths in RINGS:
            for cutting in some_cuttings(len(lengths)):
                self.like(size_of(Ring(lengths), cutting), size_by_lots(Ring(lengths)))

    def test_packed(self):
        for lengths in RINGS:
            for cutting in some_cuttings(len(lengths))[::3]:
                ring = Ring(lengths)
                paper = packed(ring, cutting)
                self.assertIs(type(paper), Packed)
                self.assertEqual(paper, packed(ring, cutting))
                self.check_packed(ring, cutting, paper.bodies)

    def check_packed(self, ring, cutting, bodies):
        tips = field_tips(ring, cutting)
        told = forms(ring.lengths, cutting.diagonals)
        places = {tip: fractions_of(tip) for tip in tips}
        lids, total = {}, Fraction(0)
        for body in bodies:
            self.assertEqual(len(body), len(cutting.diagonals) + 1)
            self.assertTrue(set(body) <= set(tips))
            self.assertGreater(body_size([places[tip] for tip in body]), 0)
            total += body_size([places[tip] for tip in body])
            for out in body:
                lid = tuple(sorted(tip for tip in body if tip != out))
                lids.setdefault(lid, []).append(out)
        self.assertEqual((total.numerator, total.denominator), size_by_lots(ring))
        for lid, outs in lids.items():
            on_one = any(all(value(form, places[tip]) == 0 for tip in lid) for form in told)
            self.assertEqual(len(outs), 1 if on_one else 2)
            if not on_one:
                self.assertTrue(self.parts(*[[places[tip] for tip in lid + (out,)] for out in outs]))

    def parts(self, one, other):
        """Whether a lid parts two tips: the bodies' determinants have unlike signs."""
        signs = [determinant([[a - b for a, b in zip(tip, body[0])] for tip in body[1:]]) > 0
                 for body in (one, other)]
        return signs[0] != signs[1]

    def test_size_zero(self):
        for lengths in ([3, 1, 1, 1], [1, 1, 4, 1, 1], [5, 1, 1, 1, 1, 1], [2, 1, 1, 1, 1, 1, 7]):
            ring, cutting = Ring(lengths), cuttings(len(lengths))[-1]
            self.like([size_by_lots(ring), size_of(ring, cutting), packed(ring, cutting).bodies],
                      [(0, 1), (0, 1), ()])

    def test_bodies_of_one_diagonal(self):
        ring, cutting = Ring([3, 2, 2, 2]), Cutting(4, [(0, 2)])
        self.like(packed(ring, cutting).bodies, ((((1, 1),), ((4, 1),)),))
        self.like(size_of(ring, cutting), (3, 1))

    def test_all_small_rings(self):
        for lengths in combinations([1, 2, 3, 4, 5, 6], 4):
            if Ring(lengths).closes:
                right = size(lengths)
                self.like(size_by_lots(Ring(lengths)), (right.numerator, right.denominator))
                self.like(size_of(Ring(lengths), Cutting.fan(4, 1)), size_by_lots(Ring(lengths)))

    def test_eight_bars(self):
        ring = Ring([1] * 8)
        right = size([1] * 8)
        self.like(size_by_lots(ring), (right.numerator, right.denominator))
        self.raises(TooMany("bars", 7), packed, ring, Cutting.fan(8, 0))
        self.raises(TooMany("bars", 7), size_of, ring, Cutting.fan(8, 0))

    def test_long_lengths(self):
        ring = Ring([999999, 1000000, 999983, 777777, 123457, 654321, 888887])
        self.assertEqual(size_of(ring, cuttings(7)[30]), size_by_lots(ring))
        doubled = [size_by_lots(Ring([by * length for length in (3, 2, 2, 1, 2)])) for by in (1, 2, 1000)]
        self.like(doubled, [(6, 1), (24, 1), (6000000, 1)])

    def test_wrong(self):
        five = Ring([1, 1, 1, 1, 1])
        for odd in ODD:
            self.raises(BadRing("ring"), size_by_lots, odd)
            for call in (packed, size_of):
                self.raises(BadRing("ring"), call, odd, odd)
                self.raises(BadRing("bars"), call, Ring([9, 1, 1]), odd)
                self.raises(BadCutting("cutting"), call, five, odd)
        self.raises(BadRing("bars"), size_by_lots, Ring([3, 4, 5]))
        self.raises(BadRing("bars"), size_by_lots, Ring([9, 1, 1]))
        for call in (packed, size_of):
            self.raises(Misfit("bars"), call, Ring([9, 1, 1, 1]), Cutting.fan(5, 0))
            self.raises(TooLong(0), call, Ring([9, 1, 1, 1, 1, 1, 1, 1]), Cutting.fan(8, 0))
        for lengths in OPEN:
            if len(lengths) > 3:
                self.raises(TooLong(lengths.index(max(lengths))), size_by_lots, Ring(lengths))


if __name__ == "__main__":
    unittest.main()

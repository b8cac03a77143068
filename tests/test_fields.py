"""ringbars.fields: fields of cuttings, and their tips."""

import unittest
from fractions import Fraction
from itertools import product

from ringbars.cuttings import Cutting, cuttings
from ringbars.errors import BadCutting, BadRing, BadSpans, Misfit, TooLong, TooMany
from ringbars.fields import InField, TooWide, field_tips, in_field
from ringbars.rings import Ring
from tests.common import CLOSED, ODD, OPEN, Case, as_lists
from tests.plain import triangles
from tests.polys import forms, pairs, tips, value

RINGS = [lengths for lengths in CLOSED if 4 <= len(lengths) <= 7] + [[3, 2, 2, 1, 2], [7, 5, 3, 6, 4, 2]]
NO_PLACES = ODD + ([(1, 2)], [(1, 2), (1, 3), (1, 1)], [(1, 2), (2, 4)], [(1, 2), (0, 2)], [(1, 2), (1, 0)],
                   [(1, 2), (1, -3)], [(1, 2), (-1, -3)], [(1, 2), (True, 1)], [(1, 2), (1, True)], [(1, 2), 1],
                   [(1, 2), (1,)], [(1, 2), (1, 1, 1)], [(1, 2), None], [(1, 2), "12"], {(1, 2): 1, (1, 1): 1},
                   [(1, 2), (0, 0)], [(1, 2), (Fraction(1), 1)], [(1, 2), (1.0, 1)])


def some_cuttings(many):
    """Some cuttings, not fans alone."""
    every = cuttings(many)
    return every if many < 6 else every[::5] if many == 6 else every[::13]


class FieldsTest(Case):

    def setUp(self):
        self.five, self.fan = Ring([1, 1, 1, 1, 1]), Cutting.fan(5, 0)

    def test_examples(self):
        five, fan = self.five, self.fan
        self.like(field_tips(five, fan), (((0, 1), (1, 1)), ((1, 1), (0, 1)), ((1, 1), (2, 1)),
                                          ((2, 1), (1, 1)), ((2, 1), (2, 1))))
        self.like([in_field(five, fan, [(1, 2), (1, 1)]).spare, in_field(five, fan, [(1, 2), (1, 3)]).parts],
                  [((1, 2), (1, 2), (1, 1)), ((0, 2, 3), (2, 3))])

    def test_tips(self):
        for lengths in RINGS:
            for cutting in some_cuttings(len(lengths)):
                right = tips(lengths, cutting.diagonals) if len(lengths) < 7 else None
                told = field_tips(Ring(lengths), cutting)
                if right is not None:
                    self.like(told, tuple(pairs(place) for place in right))

    def test_tips_of_seven_bars(self):
        for lengths in ([1, 2, 3, 4, 5, 6, 2], [5, 1, 1, 5, 1, 5, 1]):
            cutting = cuttings(7)[20]
            right = tips(lengths, cutting.diagonals)
            self.like(field_tips(Ring(lengths), cutting), tuple(pairs(place) for place in right))

    def test_a_triangle_of_diagonals_alone(self):
        for lengths in ([2, 1, 2, 2, 1, 1], [2, 2, 2, 2, 2, 2], [5, 3, 1, 1, 2, 1]):
            cutting = Cutting(6, [(0, 2), (2, 4), (0, 4)])
            told = field_tips(Ring(lengths), cutting)
            self.like(told, tuple(pairs(place) for place in tips(lengths, cutting.diagonals)))

    def test_one_tip(self):
        for lengths in ([3, 1, 1, 1], [4, 1, 1, 1, 1], [5, 1, 1, 1, 1, 1]):
            for cutting in cuttings(len(lengths)):
                self.assertEqual(len(field_tips(Ring(lengths), cutting)), 1)

    def test_long_lengths(self):
        lengths = [999999, 1000000, 999983, 777777, 123457, 654321, 888887]
        self.assertEqual(len(field_tips(Ring(lengths), Cutting.fan(7, 0))), 33)
        self.like(field_tips(Ring([1000000, 1, 1000000, 1]), Cutting(4, [(0, 2)])),
                  (((999999, 1),), ((1000001, 1),)))

    def test_in_field(self):
        steps = [Fraction(number, by) for number, by in ((-1, 2), (0, 1), (1, 3), (1, 1), (3, 2), (2, 1), (7, 3), (4, 1))]
        for lengths in RINGS:
            if len(lengths) > 5:
                continue
            for cutting in cuttings(len(lengths)):
                for place in product(steps, repeat=len(lengths) - 3):
                    self.check_place(lengths, cutting, place)

    def check_place(self, lengths, cutting, place):
        told = forms(lengths, cutting.diagonals)
        paper = in_field(Ring(lengths), cutting, as_lists(pairs(place)))
        self.assertEqual(paper, in_field(Ring(lengths), cutting, pairs(place)))
        wide = [(three, side) for three, side, *_ in
                [form for form in told if value(form, place) < 0]]
        if wide:
            self.assertIs(type(paper), TooWide)
            self.like(paper.parts, min(wide))
            return
        self.assertIs(type(paper), InField)
        spare = [min(value(form, place) for form in told if form[0] == three)
                 for three in triangles(len(lengths), cutting.diagonals)]
        self.like(paper.spare, pairs(spare))

    def test_tips_are_in_the_field(self):
        for lengths in RINGS:
            cutting = some_cuttings(len(lengths))[-1]
            for place in field_tips(Ring(lengths), cutting):
                paper = in_field(Ring(lengths), cutting, place)
                self.assertTrue(paper)
                self.assertGreaterEqual(paper.spare.count((0, 1)), 1)

    def test_two_sides_too_wide(self):
        # A span below 0: both bars are too great then, and the lesser side is told.
        ring, cutting = Ring([2, 2, 2, 2]), Cutting(4, [(0, 2)])
        self.like(in_field(ring, cutting, [(-1, 1)]).parts, ((0, 1, 2), (0, 1)))
        self.like(in_field(ring, Cutting(4, [(1, 3)]), [(-1, 1)]).parts, ((0, 1, 3), (0, 1)))

    def test_eight_bars(self):
        ring, fan = Ring([1] * 8), Cutting.fan(8, 0)
        self.like(in_field(ring, fan, [(1, 1)] * 5).spare, ((1, 1),) * 6)
        self.raises(TooMany("bars", 7), field_tips, ring, fan)

    def test_wrong(self):
        five, fan = self.five, self.fan
        for odd in ODD:
            self.raises(BadRing("ring"), field_tips, odd, odd)
            self.raises(BadRing("ring"), in_field, odd, odd, odd)
            self.raises(BadRing("bars"), field_tips, Ring([3, 4, 5]), odd)
            self.raises(BadRing("bars"), in_field, Ring([3, 4, 9]), odd, odd)
            self.raises(BadCutting("cutting"), field_tips, five, odd)
            self.raises(BadCutting("cutting"), in_field, five, odd, odd)
        for odd in NO_PLACES:
            self.raises(BadSpans("place"), in_field, five, fan, odd)
            if odd not in ([], ()):
                self.raises(BadSpans("place"), in_field, five, Cutting(3, []), odd)
        self.raises(BadSpans("place"), in_field, Ring([9, 1, 1, 1]), fan, [(1, 1)])
        self.raises(Misfit("bars"), in_field, Ring([9, 1, 1, 1]), fan, [(1, 1), (1, 1)])
        self.raises(Misfit("bars"), field_tips, Ring([1] * 8), fan)
        self.raises(TooLong(7), field_tips, Ring([1] * 7 + [9]), Cutting.fan(8, 0))
        for lengths in OPEN:
            if len(lengths) > 3:
                many = len(lengths)
                bar = lengths.index(max(lengths))
                self.raises(TooLong(bar), field_tips, Ring(lengths), Cutting.fan(many, 0))
                self.raises(TooLong(bar), in_field, Ring(lengths), Cutting.fan(many, 0), [(1, 1)] * (many - 3))


if __name__ == "__main__":
    unittest.main()

"""ringbars.shapes: shapes, whether they fit, and flat triangles."""

import unittest

from ringbars.cuttings import Cutting, cuttings
from ringbars.errors import BadCutting, BadNumber, BadRing, BadShape, BadText, Misfit
from ringbars.errors import NoTriangle, TooLong
from ringbars.rings import Ring
from ringbars.shapes import Flat, NeverFlat, Shape, fits, flat_triangles, never_flat, shape_of
from ringbars.shapes import some_shape, with_flat
from tests.common import CLOSED, HUGE, NO_INTEGERS, ODD, OPEN, Case
from tests.plain import all_hands, all_spans, arc, arm_spans, is_let, long_three, slack, triangles

SMALL = ([3, 4, 5], [1, 1, 2], [1, 1, 1], [2, 1, 1, 1], [2, 2, 2, 1], [2, 1, 2, 1], [3, 1, 1, 1],
         [3, 2, 2, 1, 1], [2, 2, 1, 1, 1], [4, 4, 4, 1, 1], [4, 1, 1, 1, 1], [1, 1, 1, 1, 1],
         [1, 2, 1, 2, 1, 1], [3, 1, 1, 3, 1, 3])
WRONG_SPANS = (None, True, 3, "12", {}, [1], [1, 2, 3], [1, -1], [1, True], [1, None], [1, "2"],
               [[1], 2], b"ab", [])
WRONG_HANDS = (None, False, 0, "111", {}, [1, 1], [1, 1, 1, 1], [1, 1, 2], [-2, 1, 1], [1, True, 0],
               [1, 0, None], [1, 0, "1"], [1, 0, [0]], [])


class ShapesTest(Case):

    def setUp(self):
        self.ring, self.fan = Ring([2, 2, 1, 1, 1]), Cutting.fan(5, 0)
        self.one = shape_of(self.ring, self.fan, 1, [1, 1], [1, 1, 1])

    def test_examples(self):
        ring, fan, one = self.ring, self.fan, self.one
        told = [str(Shape(fan, 4, [6, 4], [1, -1, 0])), str(Shape(Cutting(3, []), 5, [], [-1])),
                one.flats, fits(ring, Shape(fan, 1, [1, 1], [1, 0, 1]))]
        self.like(told, ["5 : 0 2 / 0 3 | 2 3 2 | 1 -1 0", "3 : | 1 | -1", (), False])
        told = [flat_triangles(ring, fan, 1, [0, 1]), with_flat(ring, fan, (0, 1, 2)).shape.spans[0],
                never_flat(ring, fan)]
        self.like(told, [((0, 1, 2), (0, 2, 3)), 0, None])
        four = Ring([4, 4, 4, 1, 1])
        told = [with_flat(four, fan, [0, 1, 2]).ranges, never_flat(four, fan),
                bool(with_flat(four, fan, (0, 3, 4)))]
        self.like(told, [((4, 4), (4, 4), (2, 6)), (0, 1, 2), True])

    def test_methods_stand_in_the_class(self):
        for name in ("__eq__", "__str__", "mirrored", "read"):
            self.assertIn(name, vars(Shape))

    def test_attributes(self):
        shape = Shape(self.fan, 12, [18, 6], [0, -1, 0])
        self.assertEqual(shape.cutting, self.fan)
        self.like([shape.scale, shape.spans, shape.hands], [2, (3, 1), (0, -1, 0)])
        self.like(shape.flats, ((0, 1, 2), (0, 3, 4)))
        self.like(Shape(self.fan, HUGE, [0, HUGE], (1, 1, 1)).spans, (0, 1))
        self.like(Shape(self.fan, 5, [0, 0], (1, 1, 1)).scale, 1)
        self.like(Shape(self.fan, 5, [5, 7], (1, 1, 1)).scale, 5)
        self.like(shape.mirrored().hands, (0, 1, 0))
        self.assertEqual(shape.mirrored().mirrored(), shape)
        self.assertEqual(shape.mirrored().spans, shape.spans)

    def test_copied(self):
        spans, hands = [1, 2], [1, 0, -1]
        shape = Shape(self.fan, 1, spans, hands)
        spans[0], hands[0] = 9, 0
        self.like([shape.spans, shape.hands, shape.flats], [(1, 2), (1, 0, -1), ((0, 2, 3),)])

    def test_equality(self):
        one = Shape(self.fan, 2, [4, 6], [1, 0, -1])
        self.assertEqual(one, Shape(Cutting(5, ([0, 3], [0, 2])), 1, (2, 3), (1, 0, -1)))
        for other in (Shape(self.fan, 3, [2, 3], [1, 0, -1]), Shape(self.fan, 1, [2, 3], [1, 0, 1]),
                      Shape(self.fan, 1, [3, 2], [1, 0, -1]), str(one), None, self.fan,
                      Shape(Cutting.fan(5, 1), 1, [2, 3], [1, 0, -1])):
            self.assertIs(one == other, False)
            self.assertIs(one != other, True)

    def test_wrong_parts(self):
        fan = self.fan
        for value in ODD:
            self.raises(BadCutting("cutting"), Shape, value, value, value, value)
        for value in NO_INTEGERS + (0, -1):
            self.raises(BadNumber("scale"), Shape, fan, value, value, value)
        for value in WRONG_SPANS:
            self.raises(BadShape("spans"), Shape, fan, 1, value, value)
        for value in WRONG_HANDS:
            self.raises(BadShape("hands"), Shape, fan, 1, [1, 1], value)

    def test_read(self):
        for many in range(3, 9):
            for cutting in cuttings(many)[::3]:
                for scale, add in ((1, 0), (7, 3), (10 ** 59, 1)):
                    spans = [add * at for at in range(many - 3)]
                    hands = [at % 3 - 1 for at in range(many - 2)]
                    shape = Shape(cutting, scale, spans, hands)
                    self.assertEqual(Shape.read(str(shape)), shape)
                    self.assertEqual(str(Shape.read(str(shape))), str(shape))

    def test_read_wrong(self):
        for value in ODD:
            if not isinstance(value, str):
                self.raises(BadText(0, 0), Shape.read, value)
        good = "5 : 0 2 / 0 3 | 2 3 2 | 1 -1 0".split(" ")
        for at in range(len(good)):
            for item in ("", "x", "-2", "+1", "1.5", "1" * 61, "True"):
                told = good[:at] + [item] + good[at + 1:]
                self.raises(BadText(0, at), Shape.read, " ".join(told))
                told = good[:at] + [item] + good[at:]
                self.raises(BadText(0, at), Shape.read, " ".join(told))
            self.raises(BadText(0, at), Shape.read, " ".join(good[:at]) if at else "")
        self.raises(BadText(0, len(good)), Shape.read, " ".join(good) + " ")
        self.raises(BadText(0, len(good)), Shape.read, " ".join(good) + " 1")
        self.assertEqual(str(Shape.read(" ".join(good))), " ".join(good))

    def test_read_scale_and_spans(self):
        wrong = {"5 : 0 2 / 0 3 | 2 4 2 | 1 1 1": 10, "5 : 0 2 / 0 3 | 0 4 1 | 1 1 1": 8,
                 "5 : 0 2 / 0 3 | 3 0 0 | 1 1 1": 10, "5 : 0 2 / 0 3 | 2 4 2 | x": 10,
                 "3 : | 2 | 1": 3, "3 : | 0 | 1": 3, "4 : 0 2 | 2 2 | 1 1": 6, "3 : | 1 | 2": 5,
                 "4 : 0 2 | 2 0 | 1 1": 6, "4 : 0 2 | 1 -1 | 1 1": 6, "3 : | 1 | 1 1": 6,
                 "5 : 0 2 / 0 3 2 3 2 | 1 1 1": 7, "5 : 0 2 / 0 3 | 2 3 | 1 1 1": 10,
                 "4 : 0 2 | 1 1 1 | 1 1": 7, "4 : 0 2 | 1 1 | 1 1 1": 10, "4 : 0 2 | 1 1 | 1": 9,
                 "4 : 0 2 | 1 1 | -0 1": 8, "4 : 0 2 | 1 1 | 01 1": 8, "4 : 0 2 | 1 1 |  1": 8}
        for text, item in wrong.items():
            self.raises(BadText(0, item), Shape.read, text)
        for text in ("5 : 0 2 / 0 3 | 1 0 0 | 1 1 1", "3 : | 1 | 0", "4 : 0 2 | 6 35 | 1 0"):
            self.assertEqual(str(Shape.read(text)), text)
        self.assertEqual(Shape.read("4 : 0 2 | " + "9" * 60 + " 1 | 1 1").scale, int("9" * 60))
        self.raises(BadText(0, 5), Shape.read, "4 : 0 2 | " + "9" * 61 + " 1 | 1 1")
        self.raises(BadText(0, 6), Shape.read, "4 : 0 2 | 1 " + "9" * 61 + " | 1 1")

    def test_flat_triangles_and_shape_of(self):
        for lengths in SMALL:
            ring = Ring(lengths)
            for cutting in cuttings(len(lengths)):
                let = all_spans(lengths, cutting.diagonals)
                for spans in let[:40]:
                    flats = tuple(three for three in cutting.triangles
                                  if slack(lengths, list(cutting.diagonals), spans, three) == 0)
                    for scale in (1, 6):
                        told = [scale * span for span in spans]
                        self.like(flat_triangles(ring, cutting, scale, told), flats)
                    self.check_hands(ring, cutting, spans, flats)

    def check_hands(self, ring, cutting, spans, flats):
        hands = [0 if three in flats else 1 for three in cutting.triangles]
        shape = shape_of(ring, cutting, 1, list(spans), hands)
        self.assertEqual(shape, Shape(cutting, 1, spans, hands))
        self.assertEqual(shape.flats, flats)
        self.assertIs(fits(ring, shape), True)
        self.assertIs(fits(ring, shape.mirrored()), True)
        for at, hand in enumerate(hands):
            wrong = hands[:at] + [1 if hand == 0 else 0] + hands[at + 1:]
            self.assertIs(fits(ring, Shape(cutting, 1, spans, wrong)), False)
            self.raises(BadShape("hands"), shape_of, ring, cutting, 1, spans, wrong)

    def test_spans_that_are_not_let(self):
        for lengths in ([2, 1, 1, 1], [3, 2, 2, 1, 1], [1, 1, 9, 1, 1], [9, 1, 1]):
            ring, many = Ring(lengths), len(lengths)
            cutting = Cutting.fan(many, 0)
            for span in range(12):
                spans = [span] * (many - 3)
                if not is_let(lengths, list(cutting.diagonals), spans):
                    self.raises(BadShape("spans"), flat_triangles, ring, cutting, 1, spans)
                    self.raises(BadShape("spans"), shape_of, ring, cutting, 1, spans, [1] * (many - 2))
                    self.assertIs(fits(ring, Shape(cutting, 1, spans, [1] * (many - 2))), False)

    def test_told_errors(self):
        ring, fan, six = self.ring, self.fan, Cutting.fan(6, 0)
        for call, more in ((flat_triangles, ()), (shape_of, ([5],))):
            for value in ODD:
                self.raises(BadRing("ring"), call, value, value, value, value, *more)
                self.raises(BadCutting("cutting"), call, ring, value, value, value, *more)
            for value in NO_INTEGERS + (0, -1):
                self.raises(BadNumber("scale"), call, ring, fan, value, value, *more)
            for value in WRONG_SPANS:
                self.raises(BadShape("spans"), call, ring, fan, 1, value, *more)
        for value in WRONG_HANDS:
            self.raises(BadShape("hands"), shape_of, ring, fan, 1, [9, 9], value)
        hands = [1, 1, 1, 1]
        self.raises(Misfit("bars"), flat_triangles, ring, six, 1, [9, 9, 9])
        self.raises(Misfit("bars"), shape_of, ring, six, 1, [9, 9, 9], hands)
        self.raises(BadShape("hands"), shape_of, ring, six, 1, [9, 9, 9], hands[1:])
        # Not let, and hands that do not fit: spans come first.
        self.raises(BadShape("spans"), shape_of, ring, fan, 1, [9, 9], [0, 0, 0])
        self.raises(BadShape("hands"), shape_of, ring, fan, 1, [1, 1], [0, 1, 1])

    def test_fits_errors(self):
        for value in ODD:
            self.raises(BadRing("ring"), fits, value, value)
            self.raises(BadShape("shape"), fits, self.ring, value)
        self.raises(Misfit("bars"), fits, Ring([3, 4, 5]), self.one)
        # No TooLong here: an open ring has no shape that fits.
        self.assertIs(fits(Ring([9, 1, 1, 1, 1]), self.one), False)

    def test_some_shape(self):
        for lengths in CLOSED:
            ring = Ring(lengths)
            for cutting in cuttings(len(lengths))[::2]:
                shape = some_shape(ring, cutting)
                self.assertEqual(shape.cutting, cutting)
                self.assertIs(fits(ring, shape), True)
                self.assertEqual(shape, some_shape(ring, cutting))

    def test_never_flat(self):
        for lengths in CLOSED:
            ring, three = Ring(lengths), long_three(lengths)
            for cutting in cuttings(len(lengths)):
                told = never_flat(ring, cutting)
                if three is None:
                    self.assertIsNone(told)
                    continue
                self.assertIn(told, cutting.triangles)
                first, second, third = told
                arcs = [arc(len(lengths), one, other)
                        for one, other in ((first, second), (second, third), (third, first))]
                self.assertTrue(all(len(set(bars) & set(three)) == 1 for bars in arcs))

    def test_with_flat(self):
        for lengths in SMALL:
            ring = Ring(lengths)
            for cutting in cuttings(len(lengths)):
                rows = all_spans(lengths, cutting.diagonals)
                for three in cutting.triangles:
                    some = [row for row in rows
                            if slack(lengths, list(cutting.diagonals), row, three) == 0]
                    self.check_flat(ring, cutting, three, bool(some))

    def check_flat(self, ring, cutting, three, can_be):
        answer = with_flat(ring, cutting, list(three))
        self.assertEqual(bool(answer), can_be)
        self.assertEqual(answer, with_flat(ring, cutting, three))
        if can_be:
            self.assertIs(type(answer), Flat)
            self.assertEqual(answer.shape.cutting, cutting)
            self.assertIs(fits(ring, answer.shape), True)
            self.assertIn(three, answer.shape.flats)
        else:
            self.assertIs(type(answer), NeverFlat)
            first, second, third = three
            spans = [arm_spans([ring.lengths[bar] for bar in arc(len(ring), one, other)])
                     for one, other in ((first, second), (second, third), (third, first))]
            self.like(answer.ranges, tuple((min(some), max(some)) for some in spans))
            self.assertEqual(never_flat(ring, cutting), three)

    def test_all_rows_of_hands_fit(self):
        for lengths in ([2, 2, 1, 1], [2, 2, 1, 1, 1]):
            ring = Ring(lengths)
            for cutting in cuttings(len(lengths)):
                for spans in all_spans(lengths, cutting.diagonals):
                    for hands in all_hands(lengths, cutting.diagonals, spans):
                        self.assertIs(fits(ring, Shape(cutting, 1, spans, hands)), True)

    def test_great_rings(self):
        for lengths in ([1000000] * 8, [1000000, 1, 1, 1, 999999, 1, 1, 1], [1000000] * 3 + [1] * 5):
            ring = Ring(lengths)
            for cutting in cuttings(8)[::5]:
                self.assertIs(fits(ring, some_shape(ring, cutting)), True)
                for three in cutting.triangles:
                    answer = with_flat(ring, cutting, three)
                    self.assertEqual(bool(answer), never_flat(ring, cutting) != three)
        shape = Shape(self.fan, HUGE, [HUGE, HUGE + 1], [1, 1, 1])
        self.assertIs(fits(self.ring, shape), True)

    def test_wrong(self):
        ring, fan, six = self.ring, self.fan, Cutting.fan(6, 0)
        open_ring = Ring([1, 9, 1, 1, 1])
        for call, more in ((some_shape, ()), (never_flat, ()), (with_flat, ((0, 1, 2),))):
            for value in ODD:
                self.raises(BadRing("ring"), call, value, value, *more)
                self.raises(BadCutting("cutting"), call, ring, value, *more)
            self.raises(Misfit("bars"), call, ring, six, *more)
            self.raises(Misfit("bars"), call, open_ring, six, *more)
            self.raises(TooLong(1), call, open_ring, fan, *more)
            for lengths in OPEN:
                cutting = Cutting.fan(len(lengths), 0)
                bar = lengths.index(max(lengths))
                self.raises(TooLong(bar), call, Ring(lengths), cutting, *more)
        for value in ODD + ([0, 1, 3], (2, 1, 0), (0, 1), (0, True, 2), ((0, 1, 2),)):
            self.raises(NoTriangle(value), with_flat, ring, fan, value)
            self.raises(NoTriangle(value), with_flat, open_ring, six, value)

    def test_triangles_are_those_of_the_cutting(self):
        for cutting in cuttings(6):
            self.like(cutting.triangles, tuple(triangles(6, cutting.diagonals)))


if __name__ == "__main__":
    unittest.main()

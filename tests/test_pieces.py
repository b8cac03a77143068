"""ringbars.pieces: in how many pieces the shapes lie."""

import unittest

from ringbars.check_shapes import shows_pieces
from ringbars.cuttings import Cutting, cuttings
from ringbars.errors import BadCutting, BadRing, BadShape, Misfit, TooLong
from ringbars.paths import path_between
from ringbars.pieces import OnePiece, TwoPieces, many_pieces, piece_of, pieces, same_piece
from ringbars.rings import Ring
from ringbars.shapes import Shape, never_flat, some_shape
from tests.common import CLOSED, ODD, OPEN, Case
from tests.plain import long_three
from tests.walking import all_shapes, do_fit, many_parts

SMALL = ([3, 4, 5], [1, 1, 2], [1, 1, 1], [2, 1, 1, 1], [2, 2, 2, 1], [2, 1, 2, 1], [3, 1, 1, 1],
         [3, 2, 2, 1, 1], [2, 2, 1, 1, 1], [4, 4, 4, 1, 1], [4, 1, 1, 1, 1])


class PiecesTest(Case):

    def setUp(self):
        self.ring, self.fan = Ring([2, 2, 1, 1, 1]), Cutting.fan(5, 0)
        self.four = Ring([4, 4, 4, 1, 1])
        self.one = Shape(self.fan, 1, [1, 1], [1, 1, 1])
        self.back = Shape(self.fan, 1, [1, 1], [-1, 1, 1])
        self.far = Shape(self.fan, 1, [4, 1], [1, 1, 1])

    def test_examples(self):
        told = [many_pieces(self.ring), many_pieces(self.four),
                piece_of(self.four, self.far.mirrored()), same_piece(self.ring, self.one, self.back),
                pieces(self.four, self.fan).parts]
        self.like(told, [1, 2, 1, True, ((0, 1, 2), (0, 1, 2))])

    def test_parts_that_hang_together(self):
        for lengths in SMALL:
            ring = Ring(lengths)
            for cutting in cuttings(len(lengths))[::2]:
                shapes = all_shapes(lengths, cutting, 10 ** 9)
                self.like(many_pieces(ring), many_parts(shapes))

    def test_piece_of(self):
        for lengths in SMALL:
            ring = Ring(lengths)
            for cutting in cuttings(len(lengths)):
                shapes = all_shapes(lengths, cutting, 12)
                for one in shapes:
                    for other in shapes:
                        same = bool(path_between(ring, one, other))
                        self.like(same_piece(ring, one, other), same)
                        self.assertEqual(piece_of(ring, one) == piece_of(ring, other), same)
                numbers = {piece_of(ring, shape) for shape in shapes}
                self.assertTrue(numbers <= set(range(many_pieces(ring))))

    def test_mirrored_shapes(self):
        for lengths in CLOSED:
            ring = Ring(lengths)
            self.like(many_pieces(ring), 1 if long_three(lengths) is None else 2)
            for cutting in cuttings(len(lengths))[::4]:
                shape = some_shape(ring, cutting)
                self.like(piece_of(ring, shape), 0)
                self.like(piece_of(ring, shape.mirrored()), many_pieces(ring) - 1)

    def test_unlike_cuttings(self):
        for lengths in ([4, 4, 4, 1, 1], [2, 2, 2, 1], [2, 2, 1, 1, 1]):
            ring, many = Ring(lengths), len(lengths)
            shapes = [some_shape(ring, cutting) for cutting in cuttings(many)]
            for one in shapes:
                for other in shapes:
                    # All hands are 1, but of flat triangles: they lie in the first piece.
                    self.like(same_piece(ring, one, other), True)
                    self.like(same_piece(ring, one, other.mirrored()), many_pieces(ring) == 1)

    def test_pieces(self):
        for lengths in CLOSED:
            ring = Ring(lengths)
            for cutting in cuttings(len(lengths))[::3]:
                answer = pieces(ring, cutting)
                self.assertEqual(bool(answer), many_pieces(ring) == 1)
                self.assertIs(shows_pieces(ring, cutting, answer), True)
                self.assertEqual(answer, pieces(ring, cutting))
                if not answer:
                    self.assertIs(type(answer), TwoPieces)
                    self.like(answer.parts, (never_flat(ring, cutting), long_three(lengths)))
                    continue
                self.assertIs(type(answer), OnePiece)
                self.assertEqual(len(answer.shapes), len(cutting.triangles))
                for three, shape in zip(cutting.triangles, answer.shapes):
                    self.assertTrue(do_fit(lengths, shape))
                    self.assertEqual(shape.cutting, cutting)
                    self.assertIn(three, shape.flats)

    def test_wrong(self):
        ring, fan, one = self.ring, self.fan, self.one
        for value in ODD:
            self.raises(BadRing("ring"), many_pieces, value)
            for call in (piece_of, pieces):
                self.raises(BadRing("ring"), call, value, value)
            self.raises(BadRing("ring"), same_piece, value, value, value)
            self.raises(BadShape("shape"), piece_of, ring, value)
            self.raises(BadShape("one"), same_piece, ring, value, value)
            self.raises(BadShape("other"), same_piece, ring, one, value)
            self.raises(BadCutting("cutting"), pieces, ring, value)
        for lengths in OPEN:
            self.raises(TooLong(lengths.index(max(lengths))), many_pieces, Ring(lengths))
        self.raises(BadShape("shape"), piece_of, ring, fan)
        self.raises(BadCutting("cutting"), pieces, ring, one)

    def test_order_of_errors(self):
        ring, fan, one = self.ring, self.fan, self.one
        open_ring, three = Ring([1, 1, 9, 1, 1]), Ring([3, 4, 5])
        wrong = Shape(fan, 1, [9, 9], [1, 1, 1])
        small = Shape(Cutting(3, []), 1, [], [0])
        self.raises(Misfit("bars"), piece_of, three, wrong)
        self.raises(Misfit("bars"), piece_of, open_ring, small)
        self.raises(TooLong(2), piece_of, open_ring, wrong)
        self.raises(BadShape("shape"), piece_of, ring, wrong)
        self.raises(BadShape("shape"), piece_of, three, small)
        self.raises(Misfit("bars"), same_piece, ring, wrong, small)
        self.raises(TooLong(2), same_piece, open_ring, wrong, one)
        self.raises(BadShape("one"), same_piece, ring, wrong, wrong)
        self.raises(BadShape("other"), same_piece, ring, one, wrong)
        self.raises(Misfit("bars"), pieces, three, fan)
        self.raises(Misfit("bars"), pieces, open_ring, Cutting(3, []))
        self.raises(TooLong(2), pieces, open_ring, fan)


if __name__ == "__main__":
    unittest.main()

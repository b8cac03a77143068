"""ringbars.check_shapes: which papers about shapes and paths are right."""

import unittest

from ringbars.check_shapes import shows_flat, shows_path, shows_pieces, shows_within
from ringbars.cuttings import Cutting
from ringbars.errors import BadCutting, BadNumber, BadRing, BadShape, Misfit, NoDiagonal
from ringbars.errors import NoTriangle, TooLong, Twice
from ringbars.papers import Denial, Paper
from ringbars.paths import Apart, Kept, Path, path_between, path_within
from ringbars.pieces import OnePiece, TwoPieces, pieces
from ringbars.rings import Ring
from ringbars.shapes import Flat, NeverFlat, Shape, some_shape, with_flat
from tests.common import ODD, Case, stranger

THREE = (0, 1, 2)
ARCS = ((4, 4), (4, 4), (2, 6))
NEAR = ((2, 2), (2, 2), (1, 3))
NO_PAPERS = ODD + (Paper("path", ()), Denial("kept", 1, 2))


def below(kind, *parts):
    """A paper of a class below this one."""
    return type("Below", (kind,), {})(*parts)


class CheckShapesTest(Case):

    def setUp(self):
        self.ring, self.fan = Ring([2, 2, 1, 1, 1]), Cutting.fan(5, 0)
        self.four = Ring([4, 4, 4, 1, 1])
        self.one = Shape(self.fan, 1, [1, 1], [1, 1, 1])
        self.fold = Shape(self.fan, 1, [0, 1], [0, 0, 1])
        self.back = Shape(self.fan, 1, [1, 1], [-1, 1, 1])
        self.far = Shape(self.fan, 1, [4, 1], [1, 1, 1])
        # A shape of another ring, one by another cutting, and one with a flat triangle less.
        self.strange = (Shape(self.fan, 1, [9, 9], [1, 1, 1]), some_shape(self.ring, Cutting.fan(5, 1)),
                        Shape(self.fan, 1, [0, 1], [0, 1, 1]), Shape(Cutting(3, []), 1, [], [1]))

    def asks(self, right, call, *args):
        answer = call(*args)
        self.assertIs(type(answer), bool)
        self.assertIs(answer, right)

    def test_examples(self):
        ring, fan, four, one, far = self.ring, self.fan, self.four, self.one, self.far
        self.asks(True, shows_path, ring, one, one, Path([one]))
        self.asks(False, shows_path, four, far, far, Apart(THREE, THREE))
        self.asks(True, shows_flat, ring, fan, THREE, Flat(self.fold))
        self.asks(False, shows_pieces, ring, fan, OnePiece([self.fold, self.fold, self.fold]))

    def test_flat(self):
        ring, fan, fold = self.ring, self.fan, self.fold
        self.asks(True, shows_flat, ring, fan, [0, 2, 3], Flat(fold))
        self.asks(True, shows_flat, ring, fan, THREE, Flat(Shape(fan, 2, [0, 2], [0, 0, -1])))
        self.asks(False, shows_flat, ring, fan, (0, 3, 4), Flat(fold))
        for value in self.strange + (self.one, None, 1, "x", (fold,), str(fold)):
            self.asks(False, shows_flat, ring, fan, THREE, Flat(value))
        for value in NO_PAPERS + (fold, Paper("flat", fold), below(Flat, fold), Path([fold]), Path(fold),
                                  stranger(Flat(fold)), NeverFlat(((2, 2), (2, 2), (0, 3)))):
            self.asks(False, shows_flat, ring, fan, THREE, value)

    def test_never_flat(self):
        four, fan = self.four, self.fan
        self.asks(True, shows_flat, four, fan, THREE, NeverFlat(ARCS))
        self.asks(True, shows_flat, four, fan, THREE, NeverFlat([[4, 4], [4, 4], [2, 6]]))
        self.asks(False, shows_flat, four, fan, (0, 2, 3), NeverFlat(ARCS))
        for value in (ARCS[:2], ARCS + ARCS[:1], ARCS[::-1], ((4, 4), (4, 4), (2, 7)), None, 4,
                      ((4, 4), (4, 4), (2, 6, 6)), ((4, 4), (4, 4), 2), (4, 4, 2), ((4, 4), (4, 4), (3, 6))):
            self.asks(False, shows_flat, four, fan, THREE, NeverFlat(value))
        for value in (Denial("neverflat", ARCS), below(NeverFlat, ARCS), Kept(THREE, ARCS), ARCS,
                      stranger(NeverFlat(ARCS)), Paper("neverflat", ARCS)):
            self.asks(False, shows_flat, four, fan, THREE, value)
        # True for 1, in a ring of three bars of length 1.
        ring, cutting = Ring([1, 1, 1]), Cutting(3, [])
        self.asks(True, shows_flat, ring, cutting, THREE, NeverFlat([(1, 1)] * 3))
        self.asks(False, shows_flat, ring, cutting, THREE, NeverFlat([(1, 1), (True, 1), (1, 1)]))
        self.asks(False, shows_flat, Ring([1, 1, 2]), cutting, THREE, NeverFlat([(1, 1), (1, 1), (2, 2)]))
        self.asks(True, shows_flat, ring, cutting, THREE, with_flat(ring, cutting, THREE))

    def test_path(self):
        ring, one, fold, back = self.ring, self.one, self.fold, self.back
        self.asks(True, shows_path, ring, one, back, Path([one, fold, back]))
        self.asks(True, shows_path, ring, one, back, Path([one, one, fold, fold, back, back]))
        self.asks(True, shows_path, ring, one, back, path_between(ring, one, back))
        wrong = [(), (one,), (back,), (one, back), (fold, back), (one, fold), (back, fold, one),
                 (one, fold, back, fold), None, 1, one, ((one, fold, back),), (one, None, back),
                 (one, "fold", back), (one, fold, fold.mirrored(), one)]
        wrong += [(one, fold, value, fold, back) for value in self.strange]
        for shapes in wrong:
            self.asks(False, shows_path, ring, one, back, Path(shapes))
        for value in NO_PAPERS + (Paper("path", (one, fold, back)), below(Path, (one, fold, back)),
                                  OnePiece((one, fold, back)), (one, fold, back), Apart(THREE, THREE),
                                  Apart(None, None), stranger(Path((one, fold, back)))):
            self.asks(False, shows_path, ring, one, back, value)

    def test_apart(self):
        four, far = self.four, self.far
        other = far.mirrored()
        self.asks(True, shows_path, four, far, other, Apart(THREE, THREE))
        self.asks(True, shows_path, four, other, far, Apart([0, 1, 2], [0, 1, 2]))
        for parts in (((0, 2, 3), THREE), (THREE, (0, 1, 3)), (THREE, (2, 1, 0)), (THREE, None),
                      ((0, True, 2), THREE), (THREE, (0, True, 2)), (None, THREE), ((0, 1, 3), THREE),
                      ((2, 1, 0), THREE), (THREE, THREE + (3,)), (0, 1), ("012", "012")):
            self.asks(False, shows_path, four, far, other, Apart(*parts))
        for value in (Kept(THREE, THREE), TwoPieces(THREE, THREE), Denial("apart", THREE, THREE),
                      below(Apart, THREE, THREE), (THREE, THREE), Path([far, other]),
                      stranger(Apart(THREE, THREE))):
            self.asks(False, shows_path, four, far, other, value)
        half = Shape(self.fan, 1, [4, 1], [1, -1, -1])
        self.asks(False, shows_path, four, far, half, Apart(THREE, THREE))
        self.asks(False, shows_path, four, far, half, Apart((0, 2, 3), THREE))

    def test_within(self):
        ring, one, fold, back = self.ring, self.one, self.fold, self.back
        path = Path([one, fold, back])
        for bounds in ([], [((0, 2), None, 1)], [[[0, 2], 0, 1], [[0, 3], 1, 1]]):
            self.asks(True, shows_within, ring, one, back, bounds, path)
            self.asks(False, shows_within, ring, one, back, bounds, Kept(THREE, NEAR))
            self.asks(False, shows_within, ring, one, back, bounds, Path([one, back]))
            self.asks(True, shows_within, ring, one, back, bounds, path_within(ring, one, back, bounds))
        near = [((0, 2), 1, None)]
        self.asks(False, shows_within, ring, one, back, near, path)
        self.asks(False, shows_within, ring, one, one, near, Path([one, fold, one]))
        self.asks(True, shows_within, ring, one, one, near, Path([one, one]))
        wide = Shape(self.fan, 2, [3, 3], [1, 1, 1])
        self.asks(True, shows_within, ring, one, one, [((0, 2), 1, 2)], Path([one, wide, one]))
        self.asks(False, shows_within, ring, one, one, [((0, 2), 1, 1)], Path([one, wide, one]))
        for value in NO_PAPERS + (Paper("path", path.parts), below(Path, path.shapes), Path(None),
                                  stranger(path), Kept(THREE, ((2, 2), (2, 2), (0, 3)))):
            self.asks(False, shows_within, ring, one, back, [], value)

    def test_kept(self):
        ring, one, back = self.ring, self.one, self.back
        near = [((0, 2), 1, None)]
        self.asks(True, shows_within, ring, one, back, near, Kept(THREE, NEAR))
        self.asks(True, shows_within, ring, back, one, near, Kept([0, 1, 2], [[2, 2], [2, 2], [1, 3]]))
        for parts in ((THREE, NEAR[::-1]), (THREE, NEAR[:2]), (THREE, ((2, 2), (2, 2), (True, 3))),
                      (THREE, ((2, 2), (2, 2), (0, 3))), (THREE, ((2, 2), (2, 2), (1, 2))),
                      ((0, 2, 3), NEAR), ((0, 1, 3), NEAR), (None, NEAR), (THREE, None), (NEAR, THREE),
                      ((False, 1, 2), NEAR), ((2, 1, 0), NEAR), (THREE, NEAR + NEAR[:1]), (1, 1)):
            self.asks(False, shows_within, ring, one, back, near, Kept(*parts))
        for value in (Denial("kept", THREE, NEAR), below(Kept, THREE, NEAR), Apart(THREE, NEAR),
                      Apart(THREE, THREE), NeverFlat(NEAR), Paper("kept", THREE, NEAR),
                      stranger(Kept(THREE, NEAR))):
            self.asks(False, shows_within, ring, one, back, near, value)
        # Equal hands are not kept apart.
        self.asks(False, shows_within, ring, one, one, near, Kept(THREE, NEAR))

    def test_any_kept_triangle(self):
        # Two triangles with unlike hands are both kept from being flat.
        ring, cutting = Ring([2, 2, 2, 2]), Cutting.fan(4, 0)
        one, bounds = Shape(cutting, 1, [2], [1, 1]), [((0, 2), 1, 3)]
        ranges = ((2, 2), (2, 2), (1, 3))
        other = one.mirrored()
        self.assertEqual(path_within(ring, one, other, bounds), Kept(THREE, ranges))
        self.asks(True, shows_within, ring, one, other, bounds, Kept(THREE, ranges))
        second = ((1, 3), (2, 2), (2, 2))
        self.asks(True, shows_within, ring, one, other, bounds, Kept((0, 2, 3), second))
        self.asks(False, shows_within, ring, one, other, bounds, Kept((0, 2, 3), ranges))

    def test_pieces(self):
        ring, fan, four = self.ring, self.fan, self.four
        last = Shape(fan, 1, [2, 2], [1, 1, 0])
        good = [self.fold, self.fold, last]
        self.asks(True, shows_pieces, ring, fan, OnePiece(good))
        self.asks(True, shows_pieces, ring, fan, pieces(ring, fan))
        wrong = [good[:2], good + good[:1], good[::-1], (), None, 3, self.fold, [good], [1, 2, 3],
                 [None, self.fold, last], [self.one, self.fold, last]]
        wrong += [[self.fold, value, last] for value in self.strange]
        for shapes in wrong:
            self.asks(False, shows_pieces, ring, fan, OnePiece(shapes))
            self.asks(False, shows_pieces, four, fan, OnePiece(shapes))
        for value in NO_PAPERS + (Paper("onepiece", good), below(OnePiece, good), Path(good),
                                  TwoPieces(THREE, THREE), TwoPieces(None, None), good,
                                  stranger(OnePiece(good))):
            self.asks(False, shows_pieces, ring, fan, value)

    def test_two_pieces(self):
        four, fan = self.four, self.fan
        self.asks(True, shows_pieces, four, fan, TwoPieces(THREE, THREE))
        self.asks(True, shows_pieces, four, fan, TwoPieces([0, 1, 2], [0, 1, 2]))
        for parts in (((0, 2, 3), THREE), (THREE, (0, 1, 3)), (THREE, (0, True, 2)), (THREE, None),
                      ((False, 1, 2), THREE), (None, THREE), (THREE, (0, 2, 1)), ((), ())):
            self.asks(False, shows_pieces, four, fan, TwoPieces(*parts))
        for value in (Apart(THREE, THREE), Denial("twopieces", THREE, THREE), Kept(THREE, THREE),
                      below(TwoPieces, THREE, THREE), (THREE, THREE),
                      stranger(TwoPieces(THREE, THREE))):
            self.asks(False, shows_pieces, four, fan, value)

    def test_wrong(self):
        ring, fan, one = self.ring, self.fan, self.one
        for value in ODD:
            self.raises(BadRing("ring"), shows_flat, value, value, value, value)
            self.raises(BadRing("ring"), shows_path, value, value, value, value)
            self.raises(BadRing("ring"), shows_within, value, value, value, value, value)
            self.raises(BadRing("ring"), shows_pieces, value, value, value)
            self.raises(BadCutting("cutting"), shows_flat, ring, value, value, value)
            self.raises(BadCutting("cutting"), shows_pieces, ring, value, value)
            self.raises(NoTriangle(value), shows_flat, ring, fan, value, value)
            self.raises(BadShape("one"), shows_path, ring, value, value, value)
            self.raises(BadShape("other"), shows_path, ring, one, value, value)
            self.raises(BadShape("one"), shows_within, ring, value, value, value, value)
            self.raises(BadShape("other"), shows_within, ring, one, value, value, value)
            if value not in ([], ()):
                self.raises(BadNumber("bounds"), shows_within, ring, one, one, value, value)

    def test_order_of_errors(self):
        ring, fan, one = self.ring, self.fan, self.one
        six, open_ring = Cutting.fan(6, 0), Ring([1, 9, 1, 1, 1])
        small, wrong = Shape(Cutting(3, []), 1, [], [1]), Shape(fan, 1, [1, 1], [0, 1, 1])
        self.raises(NoTriangle((2, 3, 4)), shows_flat, open_ring, six, (2, 3, 4), None)
        self.raises(Misfit("bars"), shows_flat, open_ring, six, THREE, None)
        self.raises(TooLong(1), shows_flat, open_ring, fan, THREE, None)
        self.raises(Misfit("bars"), shows_pieces, open_ring, six, None)
        self.raises(TooLong(1), shows_pieces, open_ring, fan, None)
        other = some_shape(ring, Cutting.fan(5, 1))
        for call, more in ((shows_path, ()), (shows_within, ([],))):
            self.raises(Misfit("bars"), call, open_ring, wrong, small, *more, None)
            self.raises(TooLong(1), call, open_ring, wrong, wrong, *more, None)
            self.raises(BadShape("one"), call, ring, wrong, other, *more, None)
            self.raises(BadShape("other"), call, ring, other, wrong, *more, None)
            self.raises(Misfit("cutting"), call, ring, some_shape(ring, fan), other, *more, None)
        bounds = [((0, 2), 7, 7)]
        self.raises(NoDiagonal((1, 3)), shows_within, ring, one, small, [((1, 3), 1, 1)], None)
        self.raises(Twice((0, 2)), shows_within, ring, one, small, bounds + bounds, None)
        self.raises(Misfit("cutting"), shows_within, ring, some_shape(ring, fan), other, bounds, None)
        self.raises(Misfit("bounds"), shows_within, ring, one, one, bounds, None)


if __name__ == "__main__":
    unittest.main()

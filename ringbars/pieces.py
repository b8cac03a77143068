"""In how many pieces the shapes of a ring lie [8]."""

from ringbars.lots import long_three, want_closed
from ringbars.papers import Denial, Paper
from ringbars.paths import want_fit, want_two_shapes
from ringbars.rings import want_ring
from ringbars.shapes import never_flat, want_cut, want_shape, with_flat


class OnePiece(Paper):
    """For each triangle of a cutting a shape in which it is flat."""

    def __init__(self, shapes):
        super().__init__("onepiece", shapes)
        self.shapes = self.parts[0]


class TwoPieces(Denial):
    """The triangle that is never flat, and the three bars that it parts."""

    def __init__(self, triangle, bars):
        super().__init__("twopieces", triangle, bars)
        self.triangle = self.parts[0]
        self.bars = self.parts[1]


def many_pieces(ring):
    """How many pieces the shapes of a ring lie in: 1 or 2."""
    want_closed(ring)
    return 1 if long_three(ring) is None else 2


def piece_of(ring, shape):
    """The number of the piece in which a shape lies: 0 or 1."""
    want_ring(ring, "ring")
    want_shape(shape, "shape")
    want_fit(ring, (shape,), ("shape",))
    return piece_number(ring, shape)


def same_piece(ring, one, other):
    """Whether two shapes, also by unlike cuttings, lie in one piece."""
    want_two_shapes(ring, one, other)
    want_fit(ring, (one, other), ("one", "other"))
    return piece_number(ring, one) == piece_number(ring, other)


def pieces(ring, cutting):
    """The OnePiece by a cutting, or the TwoPieces."""
    want_cut(ring, cutting)
    triangle = never_flat(ring, cutting)
    if triangle is not None:
        return TwoPieces(triangle, long_three(ring))
    return OnePiece([with_flat(ring, cutting, three).shape for three in cutting.triangles])


def piece_number(ring, shape):
    """The piece of a shape that fits, told by the triangle that is never flat."""
    triangle = never_flat(ring, shape.cutting)
    if triangle is None:
        return 0
    hand = shape.hands[shape.cutting.triangles.index(triangle)]
    return 1 if hand == -1 else 0

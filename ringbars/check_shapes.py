"""Checking the papers of ringbars.shapes, ringbars.paths and ringbars.pieces."""

from ringbars.checks import is_exactly
from ringbars.cuttings import has_triangle
from ringbars.lots import long_three
from ringbars.papers import is_called
from ringbars.paths import Apart, Kept, Path, are_shapes, side_ranges, slide_is_let, unlike_hands
from ringbars.paths import want_two_fit, want_two_shapes, want_two_within
from ringbars.pieces import OnePiece, TwoPieces
from ringbars.shapes import Flat, NeverFlat, Shape, arc_ranges, fits, keeps_open
from ringbars.shapes import never_flat, want_cut, want_flat
from ringbars.spans import are_inside


def shows_flat(ring, cutting, triangle, value):
    """Whether a value is a right Flat, or the NeverFlat, of a triangle."""
    want_flat(ring, cutting, triangle)
    if isinstance(value, Flat) and is_called(value, "Flat"):
        return is_flat_in(ring, cutting, tuple(triangle), value.shape)
    if isinstance(value, NeverFlat) and is_called(value, "NeverFlat"):
        ranges = arc_ranges(ring, triangle)
        return keeps_open(ranges) and is_exactly(value.ranges, ranges)
    return False


def shows_path(ring, one, other, value):
    """Whether a value is a right Path between two shapes, or the Apart."""
    want_two_shapes(ring, one, other)
    want_two_fit(ring, one, other)
    if isinstance(value, Path) and is_called(value, "Path"):
        return leads_over(ring, one, other, value.shapes)
    if isinstance(value, Apart) and is_called(value, "Apart"):
        if not is_unlike(one, other, value.triangle):
            return False
        return is_never_flat(ring, one.cutting, value.triangle, value.bars)
    return False


def shows_within(ring, one, other, bounds, value):
    """Whether a value is a right Path within bounds, or a right Kept."""
    want_two_within(ring, one, other, bounds)
    if isinstance(value, Path) and is_called(value, "Path"):
        if not leads_over(ring, one, other, value.shapes):
            return False
        cutting = one.cutting
        return all([are_inside(cutting, shape.scale, shape.spans, bounds) for shape in value.shapes])
    if isinstance(value, Kept) and is_called(value, "Kept"):
        if not is_unlike(one, other, value.triangle):
            return False
        ranges = side_ranges(ring, one.cutting, bounds, value.triangle)
        return keeps_open(ranges) and is_exactly(value.ranges, ranges)
    return False


def shows_pieces(ring, cutting, value):
    """Whether a value is a right OnePiece by a cutting, or the TwoPieces."""
    want_cut(ring, cutting)
    if isinstance(value, OnePiece) and is_called(value, "OnePiece"):
        return are_flat_in(ring, cutting, value.shapes)
    if isinstance(value, TwoPieces) and is_called(value, "TwoPieces"):
        return is_never_flat(ring, cutting, value.triangle, value.bars)
    return False


def is_shape_by(ring, cutting, value):
    """Whether it is a shape by this cutting that fits the ring."""
    return isinstance(value, Shape) and value.cutting == cutting and fits(ring, value)


def is_flat_in(ring, cutting, triangle, value):
    """Whether it is such a shape in which a triangle is flat."""
    return is_shape_by(ring, cutting, value) and triangle in value.flats


def are_flat_in(ring, cutting, value):
    """Whether they are shapes in which the triangles, in order, are flat."""
    if not isinstance(value, tuple) or len(value) != len(cutting.triangles):
        return False
    threes = cutting.triangles
    return all([is_flat_in(ring, cutting, threes[at], shape) for at, shape in enumerate(value)])


def leads_over(ring, one, other, value):
    """Whether they are the shapes of a path from one shape to the other."""
    if not are_shapes(value) or len(value) == 0 or value[0] != one or value[-1] != other:
        return False
    if not all([is_shape_by(ring, one.cutting, shape) for shape in value]):
        return False
    return all([slide_is_let(value[at], value[at + 1]) for at in range(len(value) - 1)])


def is_unlike(one, other, value):
    """Whether it is a triangle with the hands 1 and -1 in two shapes."""
    if not has_triangle(one.cutting, value):
        return False
    return one.cutting.triangles.index(value) in unlike_hands(one, other)


def is_never_flat(ring, cutting, triangle, bars):
    """Whether they are the triangle that is never flat, and the bars it parts."""
    right = never_flat(ring, cutting)
    return right is not None and is_exactly((triangle, bars), (right, long_three(ring)))

"""Checking the papers of ringbars.fields, ringbars.sizes and ringbars.flips [13], [14]."""

from math import factorial

from ringbars.checks import is_exactly, is_numbers, lowest
from ringbars.cuttings import has_diagonal, has_triangle
from ringbars.errors import BadSpans
from ringbars.fields import InField, TooWide, faces_of, in_field, value_on, want_field, want_placed, wide_sides
from ringbars.flips import Flips, flip_at, want_two_cut
from ringbars.papers import is_called
from ringbars.quotients import are_fractions, at_scale, scale_of
from ringbars.sizes import Packed, lots_size, power, turn_of
from ringbars.spans import side_spans
from ringbars.whole import are_whole


def shows_field(ring, cutting, place, value):
    """Whether a value is the InField of a place, or a right TooWide."""
    want_placed(ring, cutting, place)
    if isinstance(value, InField) and is_called(value, "InField"):
        right = in_field(ring, cutting, place)
        return bool(right) and is_exactly(value.parts, right.parts)
    if isinstance(value, TooWide) and is_called(value, "TooWide"):
        return is_too_wide(ring, cutting, place, value.triangle, value.side)
    return False


def shows_packed(ring, cutting, value):
    """Whether a value is a Packed of any bodies that pack the field."""
    want_field(ring, cutting)
    if not isinstance(value, Packed) or not is_called(value, "Packed"):
        return False
    if not are_bodies(value.bodies, len(cutting.diagonals)):
        return False
    scale = scale_of([fraction for body in value.bodies for tip in body for fraction in tip])
    bodies = [[at_scale(tip, scale) for tip in body] for body in value.bodies]
    if not add_up(ring, bodies, scale):
        return False
    return are_inside(ring, cutting, bodies, scale) and lids_hold(ring, cutting, bodies, scale)


def shows_flips(ring, cutting, spans, other, value):
    """Whether a value is a Flips of any flips that lead to another cutting."""
    want_two_cut(ring, cutting, spans, other)
    if not are_whole(ring, cutting, spans):
        raise BadSpans("spans")
    if not isinstance(value, Flips) or not is_called(value, "Flips"):
        return False
    if not isinstance(value.rows, tuple):
        return False
    now, told = cutting, tuple(spans)
    for row in value.rows:
        if not isinstance(row, tuple) or len(row) != 2 or not has_diagonal(now, row[0]):
            return False
        now, told = flip_at(ring, now, 1, told, row[0])
        if not is_exactly(row[1], told):
            return False
    return now == other


def is_too_wide(ring, cutting, place, triangle, side):
    """Whether they are a triangle and a side of it greater than the two others together."""
    if not has_triangle(cutting, triangle) or not is_numbers(side):
        return False
    scale = scale_of(place)
    by_side = side_spans(ring, cutting, scale, at_scale(place, scale))
    return side in wide_sides(by_side, triangle)


def are_bodies(value, many):
    """Whether any value is some bodies for so many diagonals, of any size."""
    if not isinstance(value, tuple) or not all([isinstance(body, tuple) for body in value]):
        return False
    if not all([len(body) == many + 1 for body in value]):
        return False
    return all([are_fractions(tip, many) for body in value for tip in body])


def add_up(ring, bodies, scale):
    """Whether all sizes are above 0 and add up to that of the field by lots.

    Here and below tips are integers at a scale.
    """
    turns = [abs(turn_of(body)) for body in bodies]
    if 0 in turns:
        return False
    many = len(ring) - 3
    return lowest(sum(turns), power(scale, many) * factorial(many)) == lots_size(ring)


def are_inside(ring, cutting, bodies, scale):
    """Whether all tips of the bodies lie in the field."""
    faces = faces_of(ring, cutting)
    tips = {tip: True for body in bodies for tip in body}
    return all([value_on(face, tip, scale) >= 0 for tip in tips for face in faces])


def lids_hold(ring, cutting, bodies, scale):
    """Whether each lid lies on a face, or parts the tips that two bodies have beside it."""
    faces = faces_of(ring, cutting)
    beside = {}
    for body in bodies:
        for at, tip in enumerate(body):
            tips = beside.setdefault(tuple(sorted(body[:at] + body[at + 1:])), [])
            tips.append(tip)
    return all([is_on_face(faces, lid, scale) or is_parted(lid, beside[lid]) for lid in beside])


def is_on_face(faces, lid, scale):
    """Whether all tips of a lid lie on one face."""
    return any([all([value_on(face, tip, scale) == 0 for tip in lid]) for face in faces])


def is_parted(lid, tips):
    """Whether there are just two tips beside a lid, one on each side of it."""
    if len(tips) != 2:
        return False
    return turn_of(list(lid) + tips[:1]) * turn_of(list(lid) + tips[1:]) < 0

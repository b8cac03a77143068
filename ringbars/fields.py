"""Fields of cuttings, and their tips [13]."""

from itertools import combinations

from ringbars.cells import want_few
from ringbars.cuttings import sides_of, want_cutting
from ringbars.errors import BadRing, BadSpans
from ringbars.leads import bar_spans
from ringbars.linear import solved
from ringbars.papers import Denial, Paper
from ringbars.quotients import are_fractions, at_scale, from_scale, places_in_order, scale_of
from ringbars.rings import LEAST_BARS, want_ring
from ringbars.shapes import want_cut
from ringbars.spans import side_spans, slacks

MOST_FIELD = 7


class InField(Paper):
    """For each triangle the least number by which two sides are greater than the third."""

    def __init__(self, spare):
        super().__init__("infield", spare)
        self.spare = self.parts[0]


class TooWide(Denial):
    """A triangle, and a side of it that is greater than the two others together."""

    def __init__(self, triangle, side):
        super().__init__("toowide", triangle, side)
        self.triangle = self.parts[0]
        self.side = self.parts[1]


def field_tips(ring, cutting):
    """All tips of the field, in order."""
    want_field(ring, cutting)
    want_few(ring, MOST_FIELD)
    return tips_of(ring, cutting)


def in_field(ring, cutting, place):
    """The InField of a place, or the TooWide."""
    want_placed(ring, cutting, place)
    scale = scale_of(place)
    numbers = at_scale(place, scale)
    spare = slacks(ring, cutting, scale, numbers)
    for at, triangle in enumerate(cutting.triangles):
        if spare[at] < 0:
            return TooWide(triangle, wide_sides(side_spans(ring, cutting, scale, numbers), triangle)[0])
    return InField(from_scale(spare, scale))


def wide_sides(by_side, triangle):
    """The sides of a triangle that are greater than the two others together, ascending."""
    total = sum([by_side[side] for side in sides_of(triangle)])
    return [side for side in sides_of(triangle) if 2 * by_side[side] > total]


def tips_of(ring, cutting):
    """All tips of the field of a cutting of four to seven bars, in order."""
    faces = list(faces_of(ring, cutting))
    found = {}
    for some in combinations(faces, len(cutting.diagonals)):
        told = solved([face[:-1] + (-face[-1],) for face in some])
        if told is not None and min([value_on(face, told[0], told[1]) for face in faces]) >= 0:
            found[from_scale(told[0], told[1])] = True
    return places_in_order(list(found))


def faces_of(ring, cutting):
    """For each triangle and side how much greater the two other sides are together.

    A tuple of a count for each diagonal, and what the bars bring, last.
    """
    rows = []
    for triangle in cutting.triangles:
        for side in sides_of(triangle):
            rows.append(face_of(bar_spans(ring), cutting, triangle, side))
    return tuple(rows)


def face_of(bars, cutting, triangle, side):
    """How much greater the two other sides of a triangle are together, as counts."""
    signs = {one: -1 if one == side else 1 for one in sides_of(triangle)}
    counts = [signs.get(diagonal, 0) for diagonal in cutting.diagonals]
    return tuple(counts + [sum([signs[one] * bars[one] for one in signs if one in bars])])


def value_on(face, numbers, scale):
    """What a face tells of a place at a scale: 0 on it, below 0 beyond it."""
    return sum([face[at] * number for at, number in enumerate(numbers)]) + face[-1] * scale


def want_four(ring):
    """Raise an error for what is no ring of four bars or more."""
    want_ring(ring, "ring")
    if len(ring) == LEAST_BARS:
        raise BadRing("bars")


def want_field(ring, cutting):
    """Raise the errors of a ring of four bars or more that closes, and its cutting."""
    want_four(ring)
    want_cut(ring, cutting)


def want_place(cutting, place):
    """Raise BadSpans for what is no list of fractions, one for each diagonal."""
    if not are_fractions(place, len(cutting.diagonals)):
        raise BadSpans("place")


def want_placed(ring, cutting, place):
    """Raise the errors of such a ring, its cutting, and a place of it."""
    want_four(ring)
    want_cutting(cutting, "cutting")
    want_place(cutting, place)
    want_field(ring, cutting)

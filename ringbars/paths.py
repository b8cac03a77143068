"""Slides and paths between the shapes of a ring [8]."""

from ringbars.bounds import want_bounds
from ringbars.checks import is_within
from ringbars.cuttings import sides_of
from ringbars.errors import BadNumber, BadPaper, BadShape, Misfit
from ringbars.leads import flat_spans, led, left_at_first
from ringbars.lots import long_three, want_closed
from ringbars.papers import Denial, Paper, is_called
from ringbars.params import want_as_many, want_number
from ringbars.rings import want_ring
from ringbars.shapes import Shape, fits, want_shape, with_hands
from ringbars.spans import are_inside, slacks


class Path(Paper):
    """Shapes, each two neighbours a slide that is let."""

    def __init__(self, shapes):
        super().__init__("path", shapes)
        self.shapes = self.parts[0]


class Apart(Denial):
    """A triangle that is never flat, with unlike hands, and the bars it parts."""

    def __init__(self, triangle, bars):
        super().__init__("apart", triangle, bars)
        self.triangle = self.parts[0]
        self.bars = self.parts[1]


class Kept(Denial):
    """A triangle with unlike hands that bounds keep open, and its arcs' spans."""

    def __init__(self, triangle, ranges):
        super().__init__("kept", triangle, ranges)
        self.triangle = self.parts[0]
        self.ranges = self.parts[1]


def path_between(ring, one, other):
    """A Path from one shape to another one, or the Apart."""
    want_two_shapes(ring, one, other)
    want_two_fit(ring, one, other)
    shapes, barred = path_under(ring, one, other, ())
    if barred is not None:
        return Apart(barred, long_three(ring))
    return Path(shapes)


def path_within(ring, one, other, bounds):
    """A Path within bounds from one shape to another one, or a Kept."""
    want_two_within(ring, one, other, bounds)
    shapes, barred = path_under(ring, one, other, bounds)
    if barred is not None:
        return Kept(barred, side_ranges(ring, one.cutting, bounds, barred))
    return Path(shapes)


def shape_on(ring, one, other, number, by):
    """The shape at the moment number / by of the slide from one to the other."""
    want_two_shapes(ring, one, other)
    want_number(number, 0, None, "number")
    if not is_within(by, max(1, number), None):
        raise BadNumber("by")
    want_two_fit(ring, one, other)
    if not slide_is_let(one, other):
        raise Misfit("hands")
    first, last = (by - number) * other.scale, number * one.scale
    spans = [first * one.spans[at] + last * other.spans[at] for at in range(len(one.spans))]
    scale = by * one.scale * other.scale
    hands = []
    for at, slack in enumerate(slacks(ring, one.cutting, scale, spans)):
        hands.append(0 if slack == 0 else one.hands[at] or other.hands[at] or 1)
    return Shape(one.cutting, scale, spans, hands)


def turned_path(path):
    """The path backwards."""
    want_path(path, "path")
    return Path(path.shapes[::-1])


def joined_paths(one, other):
    """The path of the shapes of one, then of those of the other but its first."""
    want_path(one, "one")
    want_path(other, "other")
    if one.shapes[-1] != other.shapes[0]:
        raise Misfit("shapes")
    return Path(one.shapes + other.shapes[1:])


def slide_is_let(one, other):
    """Whether no triangle has the hand 1 in one shape and -1 in the other one."""
    return unlike_hands(one, other) == []


def unlike_hands(one, other):
    """The indexes of the triangles with the hands 1 and -1 in two shapes."""
    return [at for at in range(len(one.hands)) if one.hands[at] * other.hands[at] == -1]


def path_under(ring, one, other, bounds):
    """The shapes from one to the other under bounds, and None.

    Or the shapes till then, and the first triangle that bars the way.
    """
    cutting = one.cutting
    left = led(cutting, left_at_first(ring, cutting, bounds))[1]
    shapes = [one]
    for at in unlike_hands(one, other):
        spans = flat_spans(cutting, left, cutting.triangles[at])
        if spans is None:
            return shapes, cutting.triangles[at]
        here = shapes[-1]
        # Hands stay as they are here, so each slide to the flat shape and back is let.
        flat = with_hands(ring, cutting, spans, (here.hands, other.hands))
        hands = here.hands[:at] + other.hands[at:at + 1] + here.hands[at + 1:]
        shapes = shapes + [flat, Shape(cutting, here.scale, here.spans, hands)]
    if shapes[-1] != other:
        shapes = shapes + [other]
    return shapes, None


def side_ranges(ring, cutting, bounds, triangle):
    """The least and the greatest span, within bounds, of a triangle's three arcs."""
    left = led(cutting, left_at_first(ring, cutting, bounds))[1]
    first, back, second = sides_of(triangle)
    return left[first], left[second], left[back]


def want_path(value, part):
    """Raise BadPaper for what is no Path of one or more shapes."""
    if not isinstance(value, Path) or not is_called(value, "Path"):
        raise BadPaper(part)
    if not are_shapes(value.shapes) or len(value.shapes) == 0:
        raise BadPaper(part)


def are_shapes(value):
    """Whether it is a tuple of shapes."""
    return isinstance(value, tuple) and all([isinstance(one, Shape) for one in value])


def want_two_shapes(ring, one, other):
    """Raise an error for what is no ring and two shapes."""
    want_ring(ring, "ring")
    want_shape(one, "one")
    want_shape(other, "other")


def want_fit(ring, shapes, parts):
    """Raise an error for a ring that does not close, or shapes that do not fit it."""
    for shape in shapes:
        want_as_many(len(ring), shape.cutting.many)
    want_closed(ring)
    for at, shape in enumerate(shapes):
        if not fits(ring, shape):
            raise BadShape(parts[at])


def want_two_fit(ring, one, other):
    """Raise an error for two shapes that do not fit a ring by one cutting."""
    want_fit(ring, (one, other), ("one", "other"))
    if one.cutting != other.cutting:
        raise Misfit("cutting")


def want_two_within(ring, one, other, bounds):
    """Raise the errors of a ring, and two shapes of it within bounds."""
    want_two_shapes(ring, one, other)
    want_bounds(one.cutting, bounds)
    want_two_fit(ring, one, other)
    for shape in (one, other):
        if not are_inside(shape.cutting, shape.scale, shape.spans, bounds):
            raise Misfit("bounds")

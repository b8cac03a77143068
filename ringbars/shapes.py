"""Shapes of a ring, told by a cutting, and flat triangles [7]."""

from math import gcd

from ringbars.arcs import arc_range
from ringbars.checks import is_list, is_within
from ringbars.cuttings import cutting_items, read_cutting, want_cutting, want_triangle
from ringbars.errors import BadShape, BadText
from ringbars.leads import chosen_spans, flat_spans, led, left_at_first
from ringbars.lots import want_closed
from ringbars.papers import Denial, Paper
from ringbars.params import want_as_many, want_number
from ringbars.rings import want_ring
from ringbars.spans import are_let, are_spans, hands_fit, slacks
from ringbars.texts import items_of, number_at, want_end, want_word


class Shape:
    """The spans of the diagonals of a cutting, and the hands of its triangles."""

    def __init__(self, cutting, scale, spans, hands):
        want_cutting(cutting, "cutting")
        want_number(scale, 1, None, "scale")
        want_spans(cutting, spans)
        want_hands(cutting, hands)
        common = scale
        for span in spans:
            common = gcd(common, span)
        self.cutting = cutting
        self.scale = scale // common
        self.spans = tuple([span // common for span in spans])
        self.hands = tuple(hands)
        self.flats = tuple([three for at, three in enumerate(cutting.triangles) if hands[at] == 0])

    def __eq__(self, other):
        if not isinstance(other, Shape) or self.cutting != other.cutting:
            return False
        if self.scale != other.scale or self.spans != other.spans:
            return False
        return self.hands == other.hands

    def __str__(self):
        return " ".join(shape_items(self))

    def mirrored(self):
        """The shape with all hands turned about."""
        return Shape(self.cutting, self.scale, self.spans, [-hand for hand in self.hands])

    @staticmethod
    def read(text):
        """The shape whose text this is."""
        items = items_of(text)
        shape, at = read_shape(items, 0)
        want_end(items, at)
        return shape


class Flat(Paper):
    """A shape in which a triangle is flat."""

    def __init__(self, shape):
        super().__init__("flat", shape)
        self.shape = self.parts[0]


class NeverFlat(Denial):
    """The least and the greatest span of each of a triangle's three arcs, alone."""

    def __init__(self, ranges):
        super().__init__("neverflat", ranges)
        self.ranges = self.parts[0]


def flat_triangles(ring, cutting, scale, spans):
    """The flat triangles of spans that are let."""
    want_spans_told(ring, cutting, scale, spans)
    want_as_many(len(ring), cutting.many)
    if not are_let(ring, cutting, scale, spans):
        raise BadShape("spans")
    slack = slacks(ring, cutting, scale, spans)
    return tuple([three for at, three in enumerate(cutting.triangles) if slack[at] == 0])


def shape_of(ring, cutting, scale, spans, hands):
    """The shape of spans and hands that fit a ring."""
    want_spans_told(ring, cutting, scale, spans)
    want_hands(cutting, hands)
    want_as_many(len(ring), cutting.many)
    if not are_let(ring, cutting, scale, spans):
        raise BadShape("spans")
    if not hands_fit(ring, cutting, scale, spans, hands):
        raise BadShape("hands")
    return Shape(cutting, scale, spans, hands)


def fits(ring, shape):
    """Whether a shape fits a ring."""
    want_ring(ring, "ring")
    want_shape(shape, "shape")
    want_as_many(len(ring), shape.cutting.many)
    cutting, scale, spans = shape.cutting, shape.scale, shape.spans
    if not are_let(ring, cutting, scale, spans):
        return False
    return hands_fit(ring, cutting, scale, spans, shape.hands)


def some_shape(ring, cutting):
    """A shape that fits."""
    want_cut(ring, cutting)
    left = led(cutting, left_at_first(ring, cutting, ()))[1]
    return with_hands(ring, cutting, chosen_spans(cutting, left), ())


def never_flat(ring, cutting):
    """The triangle that is flat in no shape, None without one."""
    want_cut(ring, cutting)
    for triangle in cutting.triangles:
        if keeps_open(arc_ranges(ring, triangle)):
            return triangle
    return None


def with_flat(ring, cutting, triangle):
    """A Flat of a triangle, or the NeverFlat."""
    want_flat(ring, cutting, triangle)
    left = led(cutting, left_at_first(ring, cutting, ()))[1]
    spans = flat_spans(cutting, left, triangle)
    if spans is None:
        return NeverFlat(arc_ranges(ring, triangle))
    return Flat(with_hands(ring, cutting, spans, ()))


def arc_ranges(ring, triangle):
    """The least and the greatest span of each of a triangle's three arcs, alone."""
    first, second, third = triangle
    arcs = ((first, second), (second, third), (third, first))
    return tuple([arc_range(ring, one, other) for one, other in arcs])


def keeps_open(ranges):
    """Whether each greatest span is less than the least ones of both others."""
    least = sum([low for low, high in ranges])
    return all([high < least - low for low, high in ranges])


def with_hands(ring, cutting, spans, wishes):
    """The shape of whole spans with the first hand wished that is not 0, else 1.

    Each wish is a row of hands; flat triangles have the hand 0 all the same.
    """
    hands = []
    for at, slack in enumerate(slacks(ring, cutting, 1, spans)):
        wished = [wish[at] for wish in wishes if wish[at] != 0] + [1]
        hands.append(0 if slack == 0 else wished[0])
    return Shape(cutting, 1, spans, hands)


def want_shape(value, part):
    """Raise BadShape for what is no shape."""
    if not isinstance(value, Shape):
        raise BadShape(part)


def want_spans(cutting, spans):
    """Raise BadShape for what are no spans for a cutting."""
    if not are_spans(cutting, spans):
        raise BadShape("spans")


def want_hands(cutting, hands):
    """Raise BadShape for what are no hands for a cutting."""
    if not is_list(hands) or len(hands) != len(cutting.triangles):
        raise BadShape("hands")
    if not all([is_within(hand, -1, 1) for hand in hands]):
        raise BadShape("hands")


def want_spans_told(ring, cutting, scale, spans):
    """Raise the errors of a ring, a cutting, a scale and spans."""
    want_ring(ring, "ring")
    want_cutting(cutting, "cutting")
    want_number(scale, 1, None, "scale")
    want_spans(cutting, spans)


def want_cut(ring, cutting):
    """Raise the errors of a ring that closes, and a cutting of it."""
    want_ring(ring, "ring")
    want_cutting(cutting, "cutting")
    want_as_many(len(ring), cutting.many)
    want_closed(ring)


def want_flat(ring, cutting, triangle):
    """Raise the errors of a ring that closes, a cutting of it, and its triangle."""
    want_ring(ring, "ring")
    want_cutting(cutting, "cutting")
    want_triangle(cutting, triangle)
    want_cut(ring, cutting)


def shape_items(shape):
    """The items of the text of a shape."""
    spans = [str(span) for span in (shape.scale,) + shape.spans]
    hands = [str(hand) for hand in shape.hands]
    return cutting_items(shape.cutting) + ["|"] + spans + ["|"] + hands


def read_shape(items, at):
    """The shape whose text begins with the item there, and the index behind it."""
    cutting, at = read_cutting(items, at)
    want_word(items, at, "|")
    numbers, at = read_spans(items, at + 1, cutting)
    want_word(items, at, "|")
    many = len(cutting.triangles)
    hands = [number_at(items, at + 1 + number, -1, 1) for number in range(many)]
    return Shape(cutting, numbers[0], numbers[1:], hands), at + 1 + many


def read_spans(items, at, cutting):
    """The scale and the spans from the item there on, and the index behind them."""
    common = number_at(items, at, 1, None)
    numbers = [common]
    for number in range(len(cutting.diagonals)):
        numbers.append(number_at(items, at + 1 + number, 0, None))
        common = gcd(common, numbers[-1])
    at += len(numbers)
    if common > 1:
        raise BadText(0, at - 1)
    return numbers, at

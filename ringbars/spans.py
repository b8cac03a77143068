"""Rows of spans, one for each diagonal of a cutting, at a scale [7]."""

from ringbars.checks import is_list, is_within
from ringbars.cuttings import sides_of
from ringbars.leads import bar_spans


def are_spans(cutting, value):
    """Whether it is a list of integers from 0 on, one for each diagonal."""
    if not is_list(value) or len(value) != len(cutting.diagonals):
        return False
    return all([is_within(span, 0, None) for span in value])


def side_spans(ring, cutting, scale, spans):
    """The span of each side, by its two corners; each bar counts scale times."""
    bars = bar_spans(ring)
    by_side = {side: scale * bars[side] for side in bars}
    for at, diagonal in enumerate(cutting.diagonals):
        by_side[diagonal] = spans[at]
    return by_side


def slack_of(by_side, triangle):
    """How much less the greatest side of a triangle is than both others."""
    three = [by_side[side] for side in sides_of(triangle)]
    return sum(three) - 2 * max(three)


def slacks(ring, cutting, scale, spans):
    """For each triangle, in order, how much less its greatest side is."""
    by_side = side_spans(ring, cutting, scale, spans)
    return [slack_of(by_side, triangle) for triangle in cutting.triangles]


def are_let(ring, cutting, scale, spans):
    """Whether in no triangle a span is longer than both others together."""
    return min(slacks(ring, cutting, scale, spans)) >= 0


def hands_fit(ring, cutting, scale, spans, hands):
    """Whether just the flat triangles have the hand 0."""
    slack = slacks(ring, cutting, scale, spans)
    return all([(slack[at] == 0) == (hands[at] == 0) for at in range(len(hands))])


def are_inside(cutting, scale, spans, bounds):
    """Whether the spans, over their scale, are within the bounds."""
    by_diagonal = {one: spans[at] for at, one in enumerate(cutting.diagonals)}
    for diagonal, low, high in bounds:
        span = by_diagonal[tuple(diagonal)]
        if low is not None and span < low * scale:
            return False
        if high is not None and span > high * scale:
            return False
    return True

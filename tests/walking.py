"""Shapes of small rings, and paths looked at, without the checks of the package."""

from itertools import product

from ringbars.shapes import Shape
from tests.plain import all_hands, all_spans, slack, within


def all_shapes(lengths, cutting, most=400):
    """All shapes at scale 1, or about so many of them, evenly chosen."""
    told = [(spans, hands) for spans in all_spans(lengths, cutting.diagonals)
            for hands in all_hands(lengths, cutting.diagonals, spans)]
    step = max(1, len(told) // most)
    return [Shape(cutting, 1, spans, hands) for spans, hands in told[::step]]


def is_slide(one, other):
    """Whether a slide is let."""
    return all(pair not in ((1, -1), (-1, 1)) for pair in zip(one.hands, other.hands))


def do_fit(lengths, shape):
    """Whether a shape fits, triangle by triangle."""
    diagonals = list(shape.cutting.diagonals)
    for three, hand in zip(shape.cutting.triangles, shape.hands):
        much = slack(lengths, diagonals, shape.spans, three, shape.scale)
        if much < 0 or (much == 0) != (hand == 0):
            return False
    return True


def is_path(lengths, shapes, one, other, bounds=()):
    """Whether shapes are a path from one to other within bounds."""
    scaled = [[(pair, None if low is None else low * shape.scale,
                None if high is None else high * shape.scale) for pair, low, high in bounds]
              for shape in shapes]
    return (shapes[0] == one and shapes[-1] == other
            and all(shape.cutting == one.cutting for shape in shapes)
            and all(do_fit(lengths, shape) for shape in shapes)
            and all(within(shape.spans, shape.cutting.diagonals, told)
                    for shape, told in zip(shapes, scaled))
            and all(is_slide(*two) for two in zip(shapes, shapes[1:])))


def unlike(one, other):
    """The triangles with the hands 1 and -1 in two shapes."""
    return [three for three, pair in zip(one.cutting.triangles, zip(one.hands, other.hands))
            if pair in ((1, -1), (-1, 1))]


def flat_ones(lengths, cutting, bounds=()):
    """The triangles that are flat in some shape within bounds."""
    diagonals = list(cutting.diagonals)
    rows = [row for row in all_spans(lengths, diagonals) if within(row, diagonals, bounds)]
    return [three for three in cutting.triangles
            if any(slack(lengths, diagonals, row, three) == 0 for row in rows)]


def many_parts(shapes):
    """How many parts hang together by slides that are let."""
    left, parts = list(shapes), 0
    while left:
        parts += 1
        queue = [left.pop()]
        while queue:
            here = queue.pop()
            near = [shape for shape in left if is_slide(here, shape)]
            left = [shape for shape in left if not is_slide(here, shape)]
            queue += near
    return parts


def some_bounds(diagonals):
    """Some rows of bounds."""
    told = [(1, None), (None, 1), (2, 3), (0, 1), (1, 2), (2, 2)]
    rows = [[]] + [[(pair, low, high)] for pair in diagonals for low, high in told]
    if len(diagonals) > 1:
        rows += [[(diagonals[0], *one), [list(diagonals[1]), *two]]
                 for one, two in product(told, told)]
    return rows

"""Along which lines the flat triangles of a shape put the bars [7], [11].

A side is told by its two corners, and points from the lesser to the greater one.
"""

from ringbars.cuttings import sides_of
from ringbars.spans import side_spans


def strands_shown(ring, shape):
    """The strands that flat triangles show, each a list of bars with signs."""
    lines = lines_of_sides(ring, shape)
    strands = {}
    last = len(ring) - 1
    for bar in range(len(ring)):
        # The last bar leads to corner 0: so it points against its side.
        side, sign = lines[(0, last)] if bar == last else lines[(bar, bar + 1)]
        row = strands.setdefault(side, [])
        row.append((bar, -sign if bar == last else sign))
    return list(strands.values())


def lines_of_sides(ring, shape):
    """For each side one side of its line, and whether both point one way: 1 or -1."""
    spans = side_spans(ring, shape.cutting, shape.scale, shape.spans)
    lines = {side: (side, 1) for side in spans}
    for triangle in shape.flats:
        told = [pair for pair in signs_in(spans, triangle) if spans[pair[0]] > 0]
        for side, sign in told[1:]:
            lines = with_joined(lines, told[0], (side, sign))
    return lines


def signs_in(spans, triangle):
    """The sides of a flat triangle, each with the sign of its direction along the line."""
    first, whole, second = sides_of(triangle)
    if spans[whole] == spans[first] + spans[second]:
        return [(first, 1), (whole, 1), (second, 1)]
    if spans[first] > spans[second]:
        return [(first, 1), (whole, 1), (second, -1)]
    return [(first, -1), (whole, 1), (second, 1)]


def with_joined(lines, one, other):
    """The lines with those of two sides made one, these having the signs told."""
    kept, sign = lines[one[0]]
    gone, behind = lines[other[0]]
    turn = sign * one[1] * other[1] * behind
    joined = {}
    for side in lines:
        line, own = lines[side]
        joined[side] = (kept, own * turn) if line == gone else (line, own)
    return joined

"""Leading what is left of each side through the triangles of a cutting [6].

What is left is a dict: for each side, a pair of corners, the least and the
greatest span. For a bar both are its length.
"""

from ringbars.cuttings import sides_of


def bar_spans(ring):
    """The length of each bar by its two corners, ascending."""
    many = len(ring)
    spans = {(bar, bar + 1): ring.lengths[bar] for bar in range(many - 1)}
    spans[(0, many - 1)] = ring.lengths[many - 1]
    return spans


def left_at_first(ring, cutting, bounds):
    """What is left before any lead: what is told, however great."""
    bars = bar_spans(ring)
    left = {side: (bars[side], bars[side]) for side in bars}
    for diagonal in cutting.diagonals:
        left[diagonal] = (0, ring.total)
    for diagonal, low, high in bounds:
        least = 0 if low is None else low
        left[tuple(diagonal)] = (least, ring.total if high is None else high)
    return left


def lead(left, triangle, diagonal):
    """What one lead by a triangle leaves of a diagonal that is a side of it."""
    others = [left[side] for side in sides_of(triangle) if side != diagonal]
    (p, r), (q, s) = others
    low, high = left[diagonal]
    return max(low, 0, p - s, q - r), min(high, r + s)


def leads_of(cutting):
    """All leads of a cutting: pairs of a diagonal and a triangle beside it."""
    return [(one, three) for three in cutting.triangles for one in sides_of(three)
            if one in cutting.diagonals]


def led(cutting, left):
    """The rows of the leads made, and what is left behind them.

    Leads go on until none leaves out more, or one leaves nothing.
    """
    now = {side: left[side] for side in left}
    rows = []
    done = -1
    while done < len(rows):
        done = len(rows)
        for diagonal, triangle in leads_of(cutting):
            low, high = lead(now, triangle, diagonal)
            if (low, high) != now[diagonal] or low > high:
                now[diagonal] = (low, high)
                rows.append((diagonal, triangle, low, high))
            if low > high:
                return rows, now
    return rows, now


def is_clash(rows):
    """Whether the last one of the rows leaves nothing."""
    return len(rows) > 0 and rows[-1][2] > rows[-1][3]


def chosen_spans(cutting, left):
    """A row of whole spans, one for each diagonal, out of what leads have left."""
    now = left
    for diagonal in cutting.diagonals:
        low = now[diagonal][0]
        fewer = {side: now[side] for side in now}
        fewer[diagonal] = (low, low)
        now = led(cutting, fewer)[1]
    return [now[diagonal][0] for diagonal in cutting.diagonals]


def flat_spans(cutting, left, triangle):
    """Whole spans out of what leads have left, with which a triangle is flat.

    None if there are none.
    """
    sides = sides_of(triangle)
    three = flat_three([left[side] for side in sides])
    if three is None:
        return None
    fewer = {side: left[side] for side in left}
    for at in range(3):
        fewer[sides[at]] = (three[at], three[at])
    return chosen_spans(cutting, led(cutting, fewer)[1])


def flat_three(ranges):
    """Three numbers within three ranges, one as great as both others together.

    None if there are none.
    """
    for at in range(3):
        low, high = ranges[at]
        (p, r), (q, s) = ranges[at - 1], ranges[at - 2]
        if p + q <= high and low <= r + s:
            most = max(low, p + q)
            part = min(r, most - q)
            three = [most, most, most]
            three[at - 1] = part
            three[at - 2] = most - part
            return three
    return None

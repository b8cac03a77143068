"""Taking webs apart pin by pin: whether they lie, and how far pins are apart [17]."""

from ringbars.errors import Impossible, Misfit
from ringbars.knots import easy_pins, joined_by, taken_away
from ringbars.papers import Denial, Paper
from ringbars.webs import least_way, makes_knot, pairs_of, want_web, way_length, ways_over


class Lies(Paper):
    """A row (pin, others, span) for each pin that is taken away."""

    def __init__(self, rows):
        super().__init__("lies", rows)
        self.rows = self.parts[0]


class LoopTooLong(Denial):
    """A bar, and a way of other bars, less long, between its pins."""

    def __init__(self, bar, way):
        super().__init__("looptoolong", bar, way)
        self.bar = self.parts[0]
        self.way = self.parts[1]


def can_lie(web):
    """A Lies of a web, or a LoopTooLong of the first bar that has one."""
    want_web(web, "web")
    for bar in range(len(web)):
        one, other, length = web.bars[bar]
        way = least_way(web, one, other)
        # A way less long than the bar does not go over it.
        if way_length(web, way) < length:
            return LoopTooLong(bar, way)
    return Lies(rows_apart(web))


def pin_range(web, one, other):
    """The least and the greatest span of two pins, (0, None) if no way joins them."""
    if makes_knot(web, one, other):
        raise Misfit("knot")
    paper = can_lie(web)
    if not paper:
        raise Impossible(paper)
    found = ways_over(web, one, other)
    if len(found) == 0:
        return 0, None
    return max([0] + [way_low(web, way) for way in found]), min([way_length(web, way) for way in found])


def rows_apart(web):
    """The rows of a web that lies: two pins are as far apart as a shortest way is long.

    So no triangle has a span longer than both others together, and each bar is as long as its span.
    """
    near = joined_by(pairs_of(web.bars))
    rows = []
    while len(near) > 1:
        pin = easy_pins(near)[0]
        others = tuple(sorted(near[pin]))
        span = None
        if len(others) == 2:
            span = way_length(web, least_way(web, others[0], others[1]))
        rows.append((pin, others, span))
        near = taken_away(near, pin)
    return rows


def way_low(web, way):
    """By how much the longest bar of a way is longer than all others of it."""
    return 2 * max([web.bars[number][2] for number in way]) - way_length(web, way)

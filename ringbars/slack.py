"""How much lengths may change while the book stays, and what a change passes [12]."""

from ringbars.checks import lowest
from ringbars.gaps import excess_of
from ringbars.lots import lots_of, want_no_level
from ringbars.papers import Paper
from ringbars.params import want_as_many, want_bar
from ringbars.quotients import in_order
from ringbars.rings import want_ring


class Slack(Paper):
    """How much shorter, and longer, a bar may be, and the lots that stop it then."""

    def __init__(self, down, up, low_lot, high_lot):
        super().__init__("slack", down, up, low_lot, high_lot)
        self.down = self.parts[0]
        self.up = self.parts[1]
        self.low_lot = self.parts[2]
        self.high_lot = self.parts[3]


class Ease(Paper):
    """By how much each length may change at least, and a lot that stops more."""

    def __init__(self, by, lot):
        super().__init__("ease", by, lot)
        self.by = self.parts[0]
        self.lot = self.parts[1]


class Passings(Paper):
    """The fractions of a straight change, each with the lots that become long there."""

    def __init__(self, rows):
        super().__init__("passings", rows)
        self.rows = self.parts[0]


def slack(ring, bar):
    """The Slack of a bar."""
    want_slack(ring, bar)
    down, up = slack_numbers(ring, bar)
    low = [lot for lot in lots_of(len(ring)) if stops_down(ring, bar, down, lot)]
    high = [lot for lot in lots_of(len(ring)) if up is not None and stops_up(ring, bar, up, lot)]
    return Slack(down, up, first_or_none(low), first_or_none(high))


def ease(ring):
    """The Ease of a ring."""
    want_eased(ring)
    by = ease_number(ring)
    return Ease(by, first_or_none([lot for lot in lots_of(len(ring)) if stops_ease(ring, by, lot)]))


def passings(one, other):
    """The Passings of the straight change from one ring to another one."""
    want_passed(one, other)
    return Passings(passed_rows(one, other))


def slack_numbers(ring, bar):
    """How much shorter, and longer, a bar may be; None for no end."""
    gaps = [excess_of(ring.lengths, lot) for lot in lots_of(len(ring)) if bar in lot]
    # The lot of all bars is long, so there is a long one, but perhaps no short one.
    down = min([gap for gap in gaps if gap > 0] + [ring.lengths[bar]]) - 1
    ups = [-gap - 1 for gap in gaps if gap < 0]
    return down, (None if ups == [] else min(ups))


def stops_down(ring, bar, down, lot):
    """Whether a lot with the bar is long, but not with the bar shorter by down + 1."""
    return bar in lot and 0 < excess_of(ring.lengths, lot) <= down + 1


def stops_up(ring, bar, up, lot):
    """Whether a lot with the bar is short, but not with the bar longer by up + 1."""
    return bar in lot and -up - 1 <= excess_of(ring.lengths, lot) < 0


def ease_number(ring):
    """The greatest number by which all lengths may change, each its own way."""
    gap = min([abs(excess_of(ring.lengths, lot)) for lot in lots_of(len(ring))])
    return min((gap - 1) // len(ring), min(ring.lengths) - 1)


def stops_ease(ring, by, lot):
    """Whether changes by one more can make a lot level."""
    return abs(excess_of(ring.lengths, lot)) <= (by + 1) * len(ring)


def passed_rows(one, other):
    """Pairs of a fraction and the lots that are short ahead of it and long behind."""
    rows = {}
    for lot in lots_of(len(one)):
        ahead = -excess_of(one.lengths, lot)
        behind = excess_of(other.lengths, lot)
        if ahead > 0 and behind > 0:
            row = rows.setdefault(lowest(ahead, ahead + behind), [])
            row.append(lot)
    return tuple([(fraction, tuple(rows[fraction])) for fraction in in_order(list(rows))])


def first_or_none(lots):
    """The first of the lots, None if there are none."""
    return lots[0] if len(lots) > 0 else None


def want_slack(ring, bar):
    """Raise the errors of a clear ring, and a bar of it."""
    want_ring(ring, "ring")
    want_bar(bar, len(ring))
    want_no_level(ring)


def want_eased(ring):
    """Raise the errors of a clear ring."""
    want_ring(ring, "ring")
    want_no_level(ring)


def want_passed(one, other):
    """Raise the errors of two clear rings of as many bars."""
    want_ring(one, "one")
    want_ring(other, "other")
    want_as_many(len(one), len(other))
    want_no_level(one)
    want_no_level(other)

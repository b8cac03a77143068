"""Rounds of the directions of the bars, and exchanges between them [9]."""

from ringbars.cells import hand_among, want_few
from ringbars.checks import is_numbers
from ringbars.errors import BadRound
from ringbars.lots import long_three, want_clear
from ringbars.papers import Denial, Paper
from ringbars.params import want_number
from ringbars.walks import fewest_steps

MOST_SEARCHED = 7


class Exchanges(Paper):
    """Rounds, each by one exchange from the one ahead."""

    def __init__(self, rounds):
        super().__init__("exchanges", rounds)
        self.rounds = self.parts[0]


class Held(Denial):
    """The three bars that are two by two long."""

    def __init__(self, bars):
        super().__init__("held", bars)
        self.bars = self.parts[0]


def is_round(ring, value):
    """Whether any value is a round of the bars of a ring."""
    want_clear(ring)
    return makes_round(ring, value)


def exchanged(ring, one, at):
    """The round with the bar at this index and the next one exchanged, or None."""
    want_clear(ring)
    want_round(ring, one, "one")
    want_number(at, 0, len(ring) - 1, "at")
    return exchanged_at(ring, tuple(one), at)


def near_rounds(ring, one):
    """All rounds that one exchange leads to, ascending."""
    want_clear(ring)
    want_round(ring, one, "one")
    return rounds_near(ring, tuple(one))


def rounds_between(ring, one, other):
    """The Exchanges from one round to another one, as few as can be, or the Held."""
    want_two_rounds(ring, one, other)
    if unlike_rounds(ring, one, other):
        return Held(long_three(ring))
    return Exchanges(fewest_steps(tuple(one), tuple(other), lambda row: rounds_near(ring, row)))


def exchanged_at(ring, one, at):
    """The round with two neighbours exchanged, None if they are long together."""
    behind = (at + 1) % len(one)
    if ring.sort_of((one[at], one[behind])) == "long":
        return None
    bars = list(one)
    bars[at] = one[behind]
    bars[behind] = one[at]
    first = bars.index(0)
    return tuple(bars[first:] + bars[:first])


def rounds_near(ring, one):
    """All rounds that one exchange leads to from a right one, ascending."""
    found = [exchanged_at(ring, one, at) for at in range(len(one))]
    return tuple(sorted([near for near in found if near is not None]))


def unlike_rounds(ring, one, other):
    """Whether the hands of two rounds differ."""
    three = long_three(ring)
    return round_hand(three, one) != round_hand(three, other)


def round_hand(three, one):
    """The hand of the cell that a round stands for."""
    return hand_among(three, [(bar,) for bar in one])


def makes_round(ring, value):
    """Whether any value is a round of the bars of a ring that closes and is clear."""
    if not is_numbers(value) or sorted(value) != list(range(len(ring))):
        return False
    return value[0] == 0


def want_round(ring, value, part):
    """Raise BadRound for what is no round."""
    if not makes_round(ring, value):
        raise BadRound(part)


def want_two_rounds(ring, one, other):
    """Raise the errors of a ring of few bars, and two rounds of it."""
    want_clear(ring)
    want_round(ring, one, "one")
    want_round(ring, other, "other")
    want_few(ring, MOST_SEARCHED)

"""Checking the papers of ringbars.rounds [9]."""

from ringbars.checks import is_exactly
from ringbars.lots import long_three
from ringbars.papers import is_called
from ringbars.rounds import Exchanges, Held, makes_round, rounds_near, unlike_rounds, want_two_rounds
from ringbars.walks import fewest_steps


def shows_exchanges(ring, one, other, value):
    """Whether a value is an Exchanges of fewest rounds, or the Held of two rounds."""
    want_two_rounds(ring, one, other)
    unlike = unlike_rounds(ring, one, other)
    if isinstance(value, Exchanges) and is_called(value, "Exchanges"):
        return not unlike and are_fewest(ring, tuple(one), tuple(other), value.rounds)
    if isinstance(value, Held) and is_called(value, "Held"):
        return unlike and is_exactly(value.bars, long_three(ring))
    return False


def are_fewest(ring, one, other, value):
    """Whether they are rounds from one to other, by as few exchanges as can be."""
    if not isinstance(value, tuple) or not all([makes_round(ring, row) for row in value]):
        return False
    if len(value) == 0 or value[0] != one or value[-1] != other:
        return False
    if not all([value[at + 1] in rounds_near(ring, value[at]) for at in range(len(value) - 1)]):
        return False
    return len(value) == len(fewest_steps(one, other, lambda row: rounds_near(ring, row)))

"""Checking the papers of ringbars.growing and ringbars.slack [12]."""

from ringbars.checks import is_exactly, is_lot
from ringbars.growing import Change, change_at, want_changed
from ringbars.papers import is_called
from ringbars.slack import Ease, Passings, Slack, ease_number, passed_rows, slack_numbers
from ringbars.slack import stops_down, stops_ease, stops_up, want_eased, want_passed, want_slack


def shows_change(lengths, wall, value):
    """Whether a value is the Change at a wall."""
    want_changed(lengths, wall)
    if not isinstance(value, Change) or not is_called(value, "Change"):
        return False
    return is_exactly(value.parts, change_at(lengths, wall).parts)


def shows_slack(ring, bar, value):
    """Whether a value is a right Slack of a bar."""
    want_slack(ring, bar)
    if not isinstance(value, Slack) or not is_called(value, "Slack"):
        return False
    down, up = slack_numbers(ring, bar)
    if not is_exactly((value.down, value.up), (down, up)):
        return False
    if value.low_lot is None:
        is_low = down == ring.lengths[bar] - 1
    else:
        is_low = is_lot_of(ring, value.low_lot) and stops_down(ring, bar, down, value.low_lot)
    if up is None:
        return is_low and value.high_lot is None
    return is_low and is_lot_of(ring, value.high_lot) and stops_up(ring, bar, up, value.high_lot)


def shows_ease(ring, value):
    """Whether a value is a right Ease of a ring."""
    want_eased(ring)
    if not isinstance(value, Ease) or not is_called(value, "Ease"):
        return False
    by = ease_number(ring)
    if not is_exactly(value.by, by):
        return False
    if value.lot is None:
        return by == min(ring.lengths) - 1
    return is_lot_of(ring, value.lot) and stops_ease(ring, by, value.lot)


def shows_passings(one, other, value):
    """Whether a value is the Passings of the straight change between two rings."""
    want_passed(one, other)
    if not isinstance(value, Passings) or not is_called(value, "Passings"):
        return False
    return is_exactly(value.rows, passed_rows(one, other))


def is_lot_of(ring, value):
    """Whether any value is a lot of the bars of a ring, as lots stand in papers."""
    return is_lot(value) and (len(value) == 0 or value[-1] < len(ring))

"""Checking the papers of ringbars.lines [11]."""

from ringbars.checks import is_exactly
from ringbars.lineups import LineUp
from ringbars.lines import Most, Nets, NoSigns, Signs, TooGreat, can_line, first_signs
from ringbars.lines import is_had, want_lined, want_parted
from ringbars.lots import level_lots, want_closed
from ringbars.papers import is_called


def shows_line(ring, lineup, value):
    """Whether a value is the Nets of a line-up, or its TooGreat."""
    want_lined(ring, lineup)
    right = can_line(ring, lineup)
    if isinstance(value, Nets) and is_called(value, "Nets"):
        return bool(right) and is_exactly(value.parts, right.parts)
    if isinstance(value, TooGreat) and is_called(value, "TooGreat"):
        return not right and is_exactly(value.parts, right.parts)
    return False


def shows_signs(ring, lots, value):
    """Whether a value is a right Signs of some lots, or the NoSigns."""
    told = want_parted(ring, lots)
    if isinstance(value, Signs) and is_called(value, "Signs"):
        lineup = value.lineup
        if not isinstance(lineup, LineUp) or lineup.lots != tuple(told):
            return False
        return is_had(ring, lineup)
    if isinstance(value, NoSigns) and is_called(value, "NoSigns"):
        found, great = first_signs(ring, told)
        return found is None and is_exactly(value.lots, tuple(great))
    return False


def shows_most(ring, value):
    """Whether a value is a Most with as many bars on one line as can be."""
    want_closed(ring)
    if not isinstance(value, Most) or not is_called(value, "Most"):
        return False
    if not isinstance(value.lineup, LineUp):
        return False
    sizes = sorted([len(lot) for lot in value.lineup.lots])
    return sizes == most_sizes(ring) and is_had(ring, value.lineup)


def most_sizes(ring):
    """How many bars the strands of a Most have, ascending."""
    many = len(ring)
    return [1, 1, many - 2] if level_lots(ring) == () else [many]

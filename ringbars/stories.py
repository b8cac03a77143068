"""Stories of desks: played back, compared, and put together [18]."""

from ringbars.checks import is_list
from ringbars.desk import Desk, do_deed, want_desk
from ringbars.errors import BadDesk, BadLine, RingError


def replay(lines):
    """A new desk that is told these deed lines."""
    if not is_list(lines) or not all([isinstance(line, str) for line in lines]):
        raise BadDesk("lines")
    desk = Desk()
    for at, line in enumerate(lines):
        try:
            do_deed(desk, line)
        except RingError as error:
            raise BadLine(at, error)
    return desk


def parting(one, other):
    """How many lines the stories of two desks begin with alike."""
    want_desk(one, "one")
    want_desk(other, "other")
    return lines_alike(one, other)


def merged(one, other):
    """A new desk with the lines of both, and the indexes of the refused ones of the other."""
    want_desk(one, "one")
    want_desk(other, "other")
    desk = replay(one.story)
    refused = []
    for at in range(lines_alike(one, other), len(other.story)):
        try:
            do_deed(desk, other.story[at])
        except RingError:
            refused.append(at)
    return desk, tuple(refused)


def lines_alike(one, other):
    """How many lines two stories begin with alike."""
    many = 0
    while many < min(len(one.story), len(other.story)) and one.story[many] == other.story[many]:
        many += 1
    return many

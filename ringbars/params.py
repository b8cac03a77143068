"""The errors of parameters that are numbers, bars, corners and lots [2]."""

from ringbars.checks import first_twice, is_list, is_numbers, is_within
from ringbars.errors import BadLot, BadNumber, Misfit, NoBar, NoCorner, Twice


def want_number(value, least, most, part):
    """Raise BadNumber for what is no integer within these bounds."""
    if not is_within(value, least, most):
        raise BadNumber(part)


def want_bar(value, many):
    """Raise NoBar for what is none of so many bars."""
    if not is_within(value, 0, many - 1):
        raise NoBar(value)


def want_corner(value, many):
    """Raise NoCorner for what is none of so many corners."""
    if not is_within(value, 0, many - 1):
        raise NoCorner(value)


def want_two_corners(one, other, many):
    """Raise an error for what are not two unlike corners of so many."""
    want_corner(one, many)
    want_corner(other, many)
    if one == other:
        raise Twice(other)


def want_lot(value, many, part):
    """The lot as an ascending tuple; raise an error for what is none."""
    if not is_numbers(value):
        raise BadLot(part)
    for bar in value:
        want_bar(bar, many)
    twice = first_twice(value)
    if twice is not None:
        raise Twice(twice)
    return tuple(sorted(value))


def want_lots(value, many, part):
    """The lots, each one ascending, as they are told; raise an error for what is no list of them."""
    if not is_list(value) or not all([is_numbers(lot) for lot in value]):
        raise BadLot(part)
    return [want_lot(lot, many, part) for lot in value]


def want_as_many(one, other):
    """Raise Misfit for values of unlike numbers of bars."""
    if one != other:
        raise Misfit("bars")

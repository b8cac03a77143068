"""Questions about any values, and small sums with integers."""

from math import gcd

from ringbars.papers import fixed

LETTERS = "abcdefghijklmnopqrstuvwxyz"
DIGITS = "0123456789"
MOST_CHARACTERS = 12


def is_integer(value):
    """Whether it is an integer; True and False are none."""
    return isinstance(value, int) and not isinstance(value, bool)


def is_within(value, least, most):
    """Whether it is an integer from least to most; None is no bound."""
    if not is_integer(value):
        return False
    return (least is None or value >= least) and (most is None or value <= most)


def is_name(value):
    """Whether it is a name [2]."""
    if not isinstance(value, str) or not 1 <= len(value) <= MOST_CHARACTERS:
        return False
    return value[0] in LETTERS and all([sign in LETTERS + DIGITS for sign in value])


def is_list(value):
    """Whether it is a list, or a tuple, which may stand for one."""
    return isinstance(value, (list, tuple))


def is_numbers(value):
    """Whether it is a list or tuple of integers."""
    return is_list(value) and all([is_integer(one) for one in value])


def are_positive(value):
    """Whether it is a list or tuple of integers from 1 on, perhaps none."""
    return is_list(value) and all([is_within(one, 1, None) for one in value])


def is_lot(value):
    """Whether it is a list or tuple of ascending integers from 0 on."""
    if not is_numbers(value):
        return False
    rises = [value[at] < value[at + 1] for at in range(len(value) - 1)]
    return all(rises) and (len(value) == 0 or value[0] >= 0)


def is_exactly(value, right):
    """Whether a part of a paper is just this one of integers, None and tuples.

    == alone would let True stand for 1.
    """
    if isinstance(right, tuple):
        if not isinstance(value, tuple) or len(value) != len(right):
            return False
        return all([is_exactly(value[at], right[at]) for at in range(len(right))])
    if right is None:
        return value is None
    return is_integer(value) and value == right


def first_twice(values):
    """The first of the values that equals one ahead of it, None without one."""
    at = twice_at(values)
    return None if at is None else fixed(values[at])


def twice_at(values):
    """The index of the first value that equals one ahead of it, None without one."""
    seen = {}
    for at, value in enumerate(values):
        key = fixed(value)
        if key in seen:
            return at
        seen[key] = True
    return None


def lowest(number, by):
    """The fraction number by by in lowest terms, a pair."""
    common = gcd(number, by)
    if by < 0:
        common = -common
    return number // common, by // common

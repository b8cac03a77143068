"""Reading texts item by item [2].

Each function takes the items, and the index of the one that is asked for.
"""

from ringbars.checks import is_within
from ringbars.errors import BadText

MOST_DIGITS = 60


def items_of(text):
    """The list of the items of a text; raise BadText for what is no string."""
    if not isinstance(text, str):
        raise BadText(0, 0)
    return text.split(" ")


def integer_of(item):
    """The integer that an item is, None for what is none."""
    digits = item[1:] if item.startswith("-") else item
    if len(digits) > MOST_DIGITS or not (digits.isascii() and digits.isdigit()):
        return None
    if digits.startswith("0") and item != "0":
        return None
    return int(item)


def item_at(items, at):
    """The item there; raise BadText if it is missing."""
    if at >= len(items):
        raise BadText(0, len(items))
    return items[at]


def number_at(items, at, least, most):
    """The integer there, from least to most, where these are no None."""
    number = integer_of(item_at(items, at))
    if not is_within(number, least, most):
        raise BadText(0, at)
    return number


def want_word(items, at, word):
    """Raise BadText if this word does not stand there."""
    if item_at(items, at) != word:
        raise BadText(0, at)


def want_end(items, at):
    """Raise BadText for an item too many."""
    if at < len(items):
        raise BadText(0, at)

"""Checking the papers of ringbars.families and ringbars.lengths [15]."""

from ringbars.checks import are_positive, is_lot
from ringbars.families import Steps, unlike_lots, want_book, want_two_books
from ringbars.lengths import Lengths, Trade, fit
from ringbars.papers import is_called
from ringbars.shorts import greatest_of, shorts_stepped


def shows_lengths(book, value):
    """Whether a value is a Lengths of any that have a book, or any Trade of it."""
    want_book(book, "book")
    if isinstance(value, Lengths) and is_called(value, "Lengths"):
        return are_positive(value.lengths) and len(value.lengths) == book.many and fit(book, value.lengths)
    if isinstance(value, Trade) and is_called(value, "Trade"):
        return is_trade(book, value.short, value.long)
    return False


def shows_steps(one, other, value):
    """Whether a value is any Steps of the fewest from one book to the other one."""
    want_two_books(one, other)
    if not isinstance(value, Steps) or not is_called(value, "Steps"):
        return False
    if not are_lots(one.many, value.lots) or len(value.lots) != len(unlike_lots(one, other)):
        return False
    shorts = one.shorts
    for lot in value.lots:
        if lot not in greatest_of(shorts):
            return False
        shorts = shorts_stepped(one.many, shorts, lot)
    return shorts == other.shorts


def are_lots(many, value):
    """Whether any value is some lots of so many bars, as lots stand in papers."""
    if not isinstance(value, tuple) or not all([is_lot(lot) for lot in value]):
        return False
    return all([bar < many for lot in value for bar in lot])


def is_trade(book, short, long):
    """Whether they are short lots and as many long ones that have each bar as often."""
    if not are_lots(book.many, short) or not are_lots(book.many, long):
        return False
    if len(short) != len(long) or len(short) == 0:
        return False
    if not all([lot in book.shorts for lot in short]) or any([lot in book.shorts for lot in long]):
        return False
    return sorted([bar for lot in short for bar in lot]) == sorted([bar for lot in long for bar in lot])

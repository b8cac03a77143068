"""Which bars of a book are longer, and lengths that have it, or a trade [15]."""

from itertools import combinations

from ringbars.checks import are_positive
from ringbars.errors import BadNumber, Twice
from ringbars.families import want_book
from ringbars.gaps import excess_of
from ringbars.lots import lots_of
from ringbars.papers import Denial, Paper
from ringbars.params import want_bar
from ringbars.shorts import with_one

# Counted for three to six bars [15]: no least length is above this.
MOST_LEAST = 6


class Lengths(Paper):
    """Lengths that have a book."""

    def __init__(self, lengths):
        super().__init__("lengths", lengths)
        self.lengths = self.parts[0]


class Trade(Denial):
    """Short lots, and as many long ones that have each bar as often."""

    def __init__(self, short, long):
        super().__init__("trade", short, long)
        self.short = self.parts[0]
        self.long = self.parts[1]


def beats(book, one, other):
    """Whether bar one beats bar other."""
    want_book(book, "book")
    want_bar(one, book.many)
    want_bar(other, book.many)
    if one == other:
        raise Twice(other)
    return lots_beating(book, one, other) != []


def at_odds(book):
    """The first pair of bars that are at odds, None if there are none."""
    want_book(book, "book")
    for pair in combinations(range(book.many), 2):
        if lots_beating(book, pair[0], pair[1]) != [] and lots_beating(book, pair[1], pair[0]) != []:
            return pair
    return None


def idle(book):
    """The lot of the idle bars."""
    want_book(book, "book")
    return tuple([bar for bar in range(book.many) if is_idle(book, bar)])


def equals(book):
    """All bars in lots of equals, ordered as tuples."""
    want_book(book, "book")
    lots = []
    for bar in range(book.many):
        same = [lot for lot in lots if are_equals(book, lot[0], bar)]
        lots = [lot + (bar,) if lot in same else lot for lot in lots]
        if same == []:
            lots.append((bar,))
    return tuple(lots)


def has_lengths(book, lengths):
    """Whether lengths have a book."""
    want_book(book, "book")
    if not are_positive(lengths) or len(lengths) != book.many:
        raise BadNumber("lengths")
    return fit(book, lengths)


def lengths_for(book):
    """The Lengths of the least sum that have a book, or a Trade of two lots against two."""
    want_book(book, "book")
    odd = at_odds(book)
    if odd is None:
        return Lengths(least_lengths(book))
    return trade_of(book, odd[0], odd[1])


def lots_beating(book, one, other):
    """The lots with neither of two bars, long with the one, short with the other."""
    lots = [lot for lot in book.shorts if one not in lot and other not in lot]
    return [lot for lot in lots if with_one(lot, one) not in book.shorts and with_one(lot, other) in book.shorts]


def are_equals(book, one, other):
    """Whether neither of two bars beats the other one."""
    return lots_beating(book, one, other) == [] and lots_beating(book, other, one) == []


def is_idle(book, bar):
    """Whether no short lot becomes long by putting a bar to it."""
    return all([bar in lot or with_one(lot, bar) in book.shorts for lot in book.shorts])


def fit(book, lengths):
    """Whether right lengths have a book."""
    return all([fits_at(book, lot, excess_of(lengths, lot)) for lot in lots_of(book.many)])


def fits_at(book, lot, excess):
    """Whether a lot that is longer than the others by so much is so in a book."""
    return excess != 0 and (excess < 0) == (lot in book.shorts)


def least_lengths(book):
    """The lengths of the least sum that have a book without bars at odds.

    A bar that beats another one is longer, and equals are as long [15].
    """
    lots = sorted(list(equals(book)), key=lambda lot: beaten_by(book, lot[0]))
    rows = []
    for steps in combinations(range(1, MOST_LEAST + 1), len(lots)):
        by_bar = {bar: steps[at] for at, lot in enumerate(lots) for bar in lot}
        lengths = [by_bar[bar] for bar in range(book.many)]
        if fit(book, lengths):
            rows.append((sum(lengths), lengths))
    return min(rows)[1]


def beaten_by(book, bar):
    """How many bars a bar beats."""
    return len([other for other in range(book.many) if other != bar and lots_beating(book, bar, other) != []])


def trade_of(book, one, other):
    """A Trade by two bars that are at odds."""
    first, second = lots_beating(book, one, other)[0], lots_beating(book, other, one)[0]
    short = (with_one(first, other), with_one(second, one))
    return Trade(short, (with_one(first, one), with_one(second, other)))

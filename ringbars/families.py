"""Books told by their greatest short lots, without lengths [15]."""

from ringbars.checks import is_numbers
from ringbars.errors import BadBook, BadLot, BadNumber, BadText, TooMany
from ringbars.lots import greatest_short, want_no_level
from ringbars.papers import Paper
from ringbars.params import want_as_many, want_lot, want_lots, want_number
from ringbars.rings import want_ring
from ringbars.shorts import are_halves, greatest_of, lots_renumbered, lots_within, shorts_stepped
from ringbars.texts import items_of, number_at, want_word

LEAST_BARS = 3
MOST_BARS = 6


class Book:
    """Which lots of some bars are short: all that lie within the greatest ones."""

    def __init__(self, many, greatest):
        want_number(many, LEAST_BARS, MOST_BARS, "many")
        told = want_lots(greatest, many, "greatest")
        if not makes_book(many, told):
            raise BadBook("greatest")
        self.many = many
        self.shorts = lots_within(told)
        self.greatest = greatest_of(self.shorts)

    def __eq__(self, other):
        if not isinstance(other, Book):
            return False
        return self.many == other.many and self.greatest == other.greatest

    def __str__(self):
        return " ".join(book_items(self))

    def is_short(self, lot):
        """Whether a lot is short."""
        return want_lot(lot, self.many, "lot") in self.shorts

    def short_lots(self):
        """All short lots, in order."""
        return self.shorts

    def in_order(self, order):
        """The book whose bar k is bar order[k] of this one."""
        if not is_numbers(order) or sorted(order) != list(range(self.many)):
            raise BadNumber("order")
        return Book(self.many, lots_renumbered(self.greatest, order))

    @staticmethod
    def read(text):
        """The book whose text this is."""
        return read_book(items_of(text))


class Steps(Paper):
    """Steps from book to book, each told by its greatest short lot."""

    def __init__(self, lots):
        super().__init__("steps", lots)
        self.lots = self.parts[0]


def book_of(ring):
    """The book of a clear ring."""
    want_ring(ring, "ring")
    want_no_level(ring)
    if len(ring) > MOST_BARS:
        raise TooMany("bars", MOST_BARS)
    return Book(len(ring), greatest_short(ring))


def stepped(book, lot):
    """The book behind the step of one of its greatest short lots."""
    want_book(book, "book")
    told = want_lot(lot, book.many, "lot")
    if told not in book.greatest:
        raise BadLot("step")
    return book_behind(book, told)


def neighbours(book):
    """The books behind all steps, in the order of the greatest short lots."""
    want_book(book, "book")
    return tuple([book_behind(book, lot) for lot in book.greatest])


def steps_between(one, other):
    """The Steps of the fewest from one book to another one."""
    want_two_books(one, other)
    # What holds a lot that must become long is long in the other book: so greater lots come first.
    return Steps(unlike_lots(one, other)[::-1])


def majority(one, other, third):
    """The book whose short lots are those that are short in two of three books."""
    want_book(one, "one")
    want_book(other, "other")
    want_book(third, "third")
    want_as_many(one.many, other.many)
    want_as_many(one.many, third.many)
    some = [lot for lot in one.shorts if lot in other.shorts or lot in third.shorts]
    some = some + [lot for lot in other.shorts if lot in third.shorts]
    return book_with(one.many, lots_within(some))


def book_behind(book, lot):
    """The book behind the step of a greatest short lot of it."""
    return book_with(book.many, shorts_stepped(book.many, book.shorts, lot))


def book_with(many, shorts):
    """The book with just these short lots, all that there are."""
    return Book(many, greatest_of(shorts))


def unlike_lots(one, other):
    """The lots that are short in one book and long in another one, in order."""
    return [lot for lot in one.shorts if lot not in other.shorts]


def want_book(value, part):
    """Raise BadBook for what is no book."""
    if not isinstance(value, Book):
        raise BadBook(part)


def want_two_books(one, other):
    """Raise the errors of two books of as many bars."""
    want_book(one, "one")
    want_book(other, "other")
    want_as_many(one.many, other.many)


def book_items(book):
    """The items of the text of a book."""
    rows = [["/"] + [str(bar) for bar in lot] for lot in book.greatest]
    return [str(book.many), ":"] + [item for row in rows for item in row][1:]


def read_book(items):
    """The book whose text has these items."""
    many = number_at(items, 0, LEAST_BARS, MOST_BARS)
    want_word(items, 1, ":")
    lots = [(number_at(items, 2, 0, many - 1),)]
    for at in range(3, len(items)):
        if items[at] == "/" and lots[-1] != ():
            lots.append(())
            continue
        least = lots[-1][-1] + 1 if lots[-1] != () else 0
        lots[-1] = lots[-1] + (number_at(items, at, least, many - 1),)
    if lots[-1] == ():
        raise BadText(0, len(items))
    if not makes_book(many, lots) or greatest_of(lots_within(lots)) != tuple(lots):
        raise BadText(0, len(items) - 1)
    return Book(many, lots)


def makes_book(many, lots):
    """Whether ascending lots are just the greatest short ones of a book, each once."""
    shorts = lots_within(lots)
    # All greatest ones are among those told: so it is enough to count them.
    return are_halves(many, shorts) and len(lots) == len(greatest_of(shorts))

"""Kinds of books: books that are one another renumbered [15]."""

from itertools import permutations

from ringbars.families import LEAST_BARS, MOST_BARS, Book, neighbours, want_book, want_two_books
from ringbars.lengths import at_odds, least_lengths
from ringbars.params import want_number
from ringbars.shorts import lots_renumbered


def least_form(book):
    """The book of a kind whose tuple of greatest short lots is the least."""
    want_book(book, "book")
    return Book(book.many, min(forms_of(book)))


def many_of_kind(book):
    """How many books are of the kind of this one."""
    want_book(book, "book")
    return len(forms_of(book))


def order_to(one, other):
    """The least order by which one book renumbered is the other one, None without any."""
    want_two_books(one, other)
    for order in permutations(range(one.many)):
        if lots_renumbered(one.greatest, order) == other.greatest:
            return order
    return None


def kinds(many):
    """The least forms of all kinds of books of so many bars, in order."""
    want_number(many, LEAST_BARS, MOST_BARS, "many")
    return kinds_of(many)


def with_lengths(many):
    """Pairs of the least form of a kind and the lengths of the least sum, in the order of kinds."""
    want_number(many, LEAST_BARS, MOST_BARS, "many")
    return tuple([(book, tuple(least_lengths(book))) for book in kinds_of(many) if at_odds(book) is None])


def forms_of(book):
    """The greatest short lots of all books of a kind, ascending."""
    forms = {lots_renumbered(book.greatest, order): True for order in permutations(range(book.many))}
    return sorted(list(forms))


def kinds_of(many):
    """The least forms of all kinds of books, in order."""
    found = []
    seen = {}
    # Steps lead from each book to each other one, and from those of one kind to the same kinds.
    books = [Book(many, [tuple(range(many - 1))])]
    while books != []:
        book, books = books[0], books[1:]
        if book.greatest not in seen:
            forms = forms_of(book)
            found.append(forms[0])
            books = books + list(neighbours(book))
            for form in forms:
                seen[form] = True
    return tuple([Book(many, form) for form in sorted(found)])

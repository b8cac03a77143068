"""Books by lots alone, found by trying all; nothing here uses the package.

A book is the tuple of its short lots, those of fewer bars first.
"""

from functools import lru_cache
from itertools import permutations, product

from tests.plain import subsets


def others(many, lot):
    """The lot of all other bars."""
    return tuple(bar for bar in range(many) if bar not in lot)


@lru_cache(maxsize=None)
def all_books(many):
    """All books of so many bars: of each lot and its others one is long, no two long ones apart."""
    pairs = [(lot, others(many, lot)) for lot in subsets(many) if 0 in lot]
    rows = [()]
    for pair in pairs:
        rows = [row + (lot,) for row in rows for lot in pair if lot and all(set(lot) & set(one) for one in row)]
    return tuple(tuple(lot for lot in subsets(many) if lot not in row) for row in rows)


def by_lengths(lengths):
    """The short lots of lengths, None if some lot is level."""
    twice = [(lot, 2 * sum(lengths[bar] for bar in lot)) for lot in subsets(len(lengths))]
    if any(length == sum(lengths) for lot, length in twice):
        return None
    return tuple(lot for lot, length in twice if length < sum(lengths))


def greatest(shorts):
    """The short lots that lie within no other one."""
    return tuple(lot for lot in shorts if not any(set(lot) < set(one) for one in shorts))


def renumbered(shorts, order):
    """The book whose bar k is bar order[k] of this one."""
    many = len(order)
    return tuple(lot for lot in subsets(many) if tuple(sorted(order[bar] for bar in lot)) in shorts)


def kind_of(many, shorts):
    """All books of a kind, by all orders."""
    return {renumbered(shorts, order) for order in permutations(range(many))}


def steps_of(many, shorts):
    """The books behind all steps, by the lots that are taken."""
    found = {}
    for lot in greatest(shorts):
        behind = (set(shorts) - {lot}) | {others(many, lot)}
        found[lot] = tuple(one for one in subsets(many) if one in behind)
    return found


def fewest_steps(many, first):
    """How many steps lead at least from a book to each other one."""
    steps, queue = {first: 0}, [first]
    for book in queue:
        for near in steps_of(many, book).values():
            if near not in steps:
                steps[near] = steps[book] + 1
                queue.append(near)
    return steps


def joined(lot, bar):
    """The lot with one bar more."""
    return tuple(sorted((*lot, bar)))


def beats(many, shorts, one, other):
    """Whether one bar beats another one: asked of all lots with neither."""
    free = [lot for lot in subsets(many) if one not in lot and other not in lot]
    return any(joined(lot, one) not in shorts and joined(lot, other) in shorts for lot in free)


def idle(many, shorts):
    """The bars that make no short lot long."""
    return tuple(bar for bar in range(many)
                 if not any(lot in shorts and joined(lot, bar) not in shorts
                            for lot in subsets(many) if bar not in lot))


@lru_cache(maxsize=None)
def least_rows(many, most):
    """By books: the lengths of the least sum that have them, with none of as little.

    All rows up to a sum are tried in the order of their sums.
    """
    found = {}
    for total in range(many, most + 1):
        for row in rows_of(many, total):
            book = by_lengths(row)
            if book is not None and sum(found.get(book, [row])[0]) == total:
                found.setdefault(book, []).append(row)
    return found


def rows_of(many, total):
    """All rows of so many integers from 1 on with this sum."""
    if many == 1:
        return [(total,)]
    return [(first, *rest) for first in range(1, total - many + 2) for rest in rows_of(many - 1, total - first)]


def is_trade(many, shorts, short, long):
    """Whether lots are a trade."""
    if len(short) != len(long) or not short:
        return False
    if any(lot not in shorts for lot in short) or any(lot in shorts for lot in long):
        return False
    return all(sum(bar in lot for lot in short) == sum(bar in lot for lot in long) for bar in range(many))


def majority(many, books):
    """The lots that are short in two of three books or in all."""
    return tuple(lot for lot in subsets(many) if sum(lot in book for book in books) > 1)


def texts(many):
    """The texts of all books of so many bars."""
    return {f"{many} : " + " / ".join(" ".join(map(str, lot)) for lot in greatest(book)): book
            for book in all_books(many)}


def bent_lots(many, lots):
    """Rows of lots in which one is exchanged, left out, or told twice."""
    for at, lot in product(range(len(lots)), subsets(many)):
        if lot != lots[at]:
            yield lots[:at] + (lot,) + lots[at + 1:]
    for at in range(len(lots)):
        yield lots[:at] + lots[at + 1:]
        yield lots[:at] + (lots[at],) + lots[at:]

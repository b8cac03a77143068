"""ringbars.check_books: whether papers of lengths, trades and steps are right."""

import unittest
from itertools import combinations_with_replacement, permutations, product

from ringbars.check_books import shows_lengths, shows_steps
from ringbars.errors import BadBook, Misfit
from ringbars.families import Book, Steps, book_of, steps_between
from ringbars.lengths import Lengths, Trade, lengths_for
from ringbars.rings import Ring
from tests.books import all_books, by_lengths, fewest_steps, is_trade, steps_of
from tests.common import HUGE, ODD, Case, as_lists, bent_papers
from tests.plain import subsets
from tests.test_families import book_with, some
from tests.test_lengths import NO_ROWS, TEN


def same(one, other):
    """Whether two parts are equal, with True and 1 kept apart."""
    return repr(one) == repr(other)


class ShowsLengthsTest(Case):

    def setUp(self):
        self.book, self.ten = book_of(Ring([3, 2, 2, 1, 1])), Book.read(TEN)

    def test_examples(self):
        book, ten = self.book, self.ten
        apart = [Book(3, [[1, 2]]), Book(3, [[0, 2]]), Book(3, [[0, 1]])]
        self.like([shows_lengths(book, Lengths([5, 4, 4, 2, 2])),
                   shows_lengths(ten, Trade([[0, 1, 2], [0, 3, 5]], [[0, 1, 5], [0, 2, 3]])),
                   shows_lengths(ten, Trade([[0, 1, 2]], [[0, 1, 5]])),
                   shows_steps(apart[0], apart[2], Steps([[2], [1, 2]]))], [True, True, False, False])

    def test_what_lengths_for_tells(self):
        for many in (3, 4, 5, 6):
            for shorts in some(all_books(many), 100):
                book = book_with(many, shorts)
                self.assertIs(shows_lengths(book, lengths_for(book)), True)

    def test_any_lengths(self):
        for many in (3, 4, 5):
            for lengths in product(range(1, 4), repeat=many):
                for shorts in some(all_books(many), 12):
                    right = shorts == by_lengths(lengths)
                    self.assertIs(shows_lengths(book_with(many, shorts), Lengths(list(lengths))), right)
        self.assertIs(shows_lengths(self.book, Lengths([3 * HUGE, 2 * HUGE, 2 * HUGE, HUGE, HUGE])), True)

    def test_no_lengths(self):
        for value in NO_ROWS:
            self.assertIs(shows_lengths(self.book, Lengths(value)), False)
        paper = lengths_for(self.book)
        for bad in bent_papers(paper):
            right = (isinstance(bad.lengths, tuple) and len(bad.lengths) == 5
                     and all(type(one) is int and one > 0 for one in bad.lengths)
                     and by_lengths(bad.lengths) == self.book.short_lots())
            self.assertIs(shows_lengths(self.book, bad), right, bad.lengths)
        self.no_papers(lambda value: shows_lengths(self.book, value), paper)

    def test_all_small_trades_of_a_book_without_lengths(self):
        ten = self.ten
        shorts = ten.short_lots()
        longs = [lot for lot in subsets(6) if lot not in shorts]
        found = 0
        for size in (1, 2):
            by_bars = {}
            for long in combinations_with_replacement(longs, size):
                by_bars.setdefault(tuple(sorted(sum(long, ()))), []).append(long)
            for short in combinations_with_replacement(shorts, size):
                for long in by_bars.get(tuple(sorted(sum(short, ()))), []):
                    found += 1
                    self.assertIs(shows_lengths(ten, Trade(as_lists(short), long)), True)
        self.assertEqual(found, 30)

    def test_bent_trades(self):
        ten = self.ten
        for paper in (lengths_for(ten), Trade([[0, 1, 2], [0, 3, 5]], [[0, 1, 5], [0, 2, 3]])):
            for bad in bent_papers(paper):
                parts = bad.parts
                right = (all(self.are_lots(part) for part in parts)
                         and is_trade(6, ten.short_lots(), parts[0], parts[1]))
                self.assertIs(shows_lengths(ten, bad), right, parts)
            self.no_papers(lambda value: shows_lengths(ten, value), paper)
            for order in permutations(range(2)):
                turned = Trade([paper.short[at] for at in order], paper.long)
                self.assertIs(shows_lengths(ten, turned), True)
            self.assertIs(shows_lengths(ten, Trade(paper.short * 2, paper.long * 2)), True)
            self.assertIs(shows_lengths(ten, Trade(paper.short * 2, paper.long)), False)
            self.assertIs(shows_lengths(ten, Trade(paper.long, paper.short)), False)
            self.assertIs(shows_lengths(ten, Trade([lot[::-1] for lot in paper.short], paper.long)), False)

    def are_lots(self, part):
        """Whether a part is lots that ascend."""
        return isinstance(part, tuple) and all(
            isinstance(lot, tuple) and all(type(bar) is int and 0 <= bar < 6 for bar in lot)
            and list(lot) == sorted(set(lot)) for lot in part)

    def test_no_trades(self):
        ten = self.ten
        for short, long in (([], []), ((), ()), ([[]], [[]]), (None, None), ([[0]], [[0]]), ([[0, 1, 2]], None),
                            ([[0, 1, 2], [0, 3, 5]], [[0, 1, 5], [2, 0, 3]]), ([[0, 1, 2], [0, 3, 5]], [[0, 1, 5]]),
                            ([[0, 1, 2], [0, 3, 5]], [[0, 1, 5], [0, 2, 3], []]), ([[6]], [[6]]), ([[-1]], [[-1]]),
                            ([[0, 1, 2], [0, 3, 5], []], [[0, 1, 5], [0, 2, 3], []]), (5, 5), ("ab", "ab"),
                            ([[0, 1, 2], [0, 3, 5], []], [[0, 1, 5], [0, 2, 3]]), ([[0, 1], [5]], [[0, 1, 5]]),
                            ([[0, 1, 5], [0, 2, 3]], [[0, 1, 5], [0, 2, 3]]), ([[0, 1, 2]], [[0, 1, 2]])):
            self.assertIs(shows_lengths(ten, Trade(short, long)), False)
        for shorts in all_books(4):
            longs = [lot for lot in subsets(4) if lot not in shorts]
            for short, long in product(combinations_with_replacement(shorts, 2), combinations_with_replacement(longs, 2)):
                self.assertIs(shows_lengths(book_with(4, shorts), Trade(short, long)), False)

    def test_wrong(self):
        for value in ODD:
            self.raises(BadBook("book"), shows_lengths, value, value)


class ShowsStepsTest(Case):

    def walks(self, many, first, size):
        """All rows of so many steps from a book, with the book behind them."""
        rows = [((), first)]
        for _ in range(size):
            rows = [(lots + (lot,), behind) for lots, book in rows for lot, behind in steps_of(many, book).items()]
        return rows

    def test_all_rows_of_steps(self):
        for many, sizes in ((3, 5), (4, 4), (5, 3)):
            for first in some(all_books(many), 4):
                steps = fewest_steps(many, first)
                one = book_with(many, first)
                near = [book for book in steps if steps[book] <= sizes]
                books = {book: book_with(many, book) for book in some(near, 25)}
                for size in range(sizes):
                    for lots, behind in some(self.walks(many, first, size), 300):
                        for last in books:
                            right = behind == last and steps[last] == size
                            self.assertIs(shows_steps(one, books[last], Steps(as_lists(lots))), right)
                        if behind not in books:
                            right = steps[behind] == size
                            self.assertIs(shows_steps(one, book_with(many, behind), Steps(lots)), right)

    def test_there_and_back(self):
        one = Book(3, [[1, 2]])
        self.assertIs(shows_steps(one, one, Steps([])), True)
        self.assertIs(shows_steps(one, one, Steps([(1, 2), (0,)])), False)
        self.assertIs(shows_steps(one, Book(3, [[0], [1], [2]]), Steps([(1, 2)])), True)
        self.assertIs(shows_steps(one, Book(3, [[0], [1], [2]]), Steps([(1, 2), (2,), (0, 1)])), False)

    def test_bent(self):
        for many in (3, 4, 5, 6):
            books = [book_with(many, shorts) for shorts in some(all_books(many), 4)]
            for one, other in product(books, books):
                paper = steps_between(one, other)
                self.assertIs(shows_steps(one, other, paper), True)
                for bad in list(bent_papers(paper))[::1 if many < 6 else 5]:
                    right = self.leads(one.short_lots(), other.short_lots(), bad.lots, many) and len(
                        bad.lots) == len(paper.lots)
                    self.assertIs(shows_steps(one, other, bad), right, bad.lots)
                if paper.lots:
                    self.no_papers(lambda value: shows_steps(one, other, value), paper)

    def leads(self, now, last, lots, many):
        """Whether these are steps from a plain book to another one."""
        if not isinstance(lots, tuple):
            return False
        for lot in lots:
            fits = [one for one in steps_of(many, now) if same(one, lot)]
            if not fits:
                return False
            now = steps_of(many, now)[fits[0]]
        return now == last

    def test_lots_ascend(self):
        one, other = Book(4, [[0, 1, 2]]), Book(4, [[1, 2, 3]])
        lots = steps_between(one, other).lots
        self.assertIs(shows_steps(one, other, Steps(lots)), True)
        self.assertIs(shows_steps(one, other, Steps([lot[::-1] for lot in lots])), False)
        self.assertIs(shows_steps(one, other, Steps(lots[::-1])), False)

    def test_wrong(self):
        five = book_of(Ring([3, 2, 2, 1, 1]))
        for value in ODD:
            self.raises(BadBook("one"), shows_steps, value, value, value)
            self.raises(BadBook("other"), shows_steps, five, value, value)
        self.raises(Misfit("bars"), shows_steps, five, Book(4, [[0, 1, 2]]), Steps([]))


if __name__ == "__main__":
    unittest.main()

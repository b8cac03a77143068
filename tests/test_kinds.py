"""ringbars.kinds: books that are one another renumbered."""

import unittest
from itertools import permutations, product

from ringbars.errors import BadBook, BadNumber, Misfit
from ringbars.families import Book, book_of
from ringbars.kinds import kinds, least_form, many_of_kind, order_to, with_lengths
from ringbars.lengths import lengths_for
from ringbars.rings import Ring
from tests.books import all_books, greatest, kind_of, least_rows, renumbered
from tests.common import HUGE, NO_INTEGERS, ODD, Case
from tests.test_families import book_with, some
from tests.test_lengths import TEN


class KindsTest(Case):

    def setUp(self):
        self.book = book_of(Ring([3, 2, 2, 1, 1]))

    def test_examples(self):
        book, ten = self.book, Book.read(TEN)
        self.like(([str(one) for one in kinds(4)], [lengths for one, lengths in with_lengths(4)],
                   [many_of_kind(one) for one in kinds(4)], len(kinds(5)), len(kinds(6)), len(with_lengths(6))),
                  (["4 : 0 / 1 2 / 1 3 / 2 3", "4 : 0 1 / 0 2 / 0 3", "4 : 0 1 2"],
                   [(2, 1, 1, 1), (1, 2, 2, 2), (1, 1, 1, 4)], [4, 4, 4], 7, 30, 21))
        apart, three = Book(3, [[1, 2]]), Book(3, [[2], [0], [1]])
        self.like([str(least_form(book)), order_to(book, book.in_order([1, 2, 3, 4, 0])), order_to(apart, three),
                   many_of_kind(book), many_of_kind(ten)],
                  ["5 : 0 1 / 0 2 / 3 4 / 1 2 3 / 1 2 4", (1, 2, 3, 4, 0), None, 30, 12])

    def test_kinds_by_all_orders(self):
        for many, right in ((3, 2), (4, 3), (5, 7)):
            left, forms = set(all_books(many)), []
            while left:
                kind = kind_of(many, next(iter(left)))
                left -= kind
                least = min(map(greatest, kind))
                forms.append(least)
                for shorts in kind:
                    book = book_with(many, shorts)
                    self.like(least_form(book).greatest, least)
                    self.assertEqual(many_of_kind(book), len(kind))
            self.like(tuple(book.greatest for book in kinds(many)), tuple(sorted(forms)))
            self.assertEqual(len(forms), right)

    def test_kinds_of_six_bars(self):
        told = kinds(6)
        self.assertEqual([len(told), sum(many_of_kind(book) for book in told)], [30, 2646])
        self.assertEqual(list(told), sorted(told, key=lambda book: book.greatest))
        for book in told[::3]:
            kind = kind_of(6, book.short_lots())
            self.like(book.greatest, min(map(greatest, kind)))
            self.assertEqual(many_of_kind(book), len(kind))
            for shorts in some(sorted(kind), 5):
                self.assertEqual(least_form(book_with(6, shorts)), book)

    def test_with_lengths(self):
        for many, right, in_all in ((3, 2, 4), (4, 3, 12), (5, 7, 81), (6, 21, 1684)):
            told = with_lengths(many)
            least = least_rows(many, 19)
            self.assertEqual([len(told), sum(many_of_kind(book) for book, _ in told)], [right, in_all])
            self.like([book.greatest for book, _ in told],
                      [book.greatest for book in kinds(many) if book.short_lots() in least])
            for book, lengths in told:
                self.like([lengths], least[book.short_lots()])
                self.like(lengths, lengths_for(book).lengths)
            open_ones = [book for book, lengths in told if 2 * max(lengths) > sum(lengths)]
            self.assertEqual(len(open_ones), 1)

    def test_order_to(self):
        for many in (3, 4):
            for one, other in product(all_books(many), repeat=2):
                self.check_order(many, one, other)
        for one, other in product(some(all_books(5), 12), some(all_books(5), 20)):
            self.check_order(5, one, other)
        for one in some(all_books(6), 4):
            for order in ((0, 1, 2, 3, 4, 5), (5, 4, 3, 2, 1, 0), (2, 0, 4, 1, 5, 3)):
                self.check_order(6, one, renumbered(one, order))

    def check_order(self, many, one, other):
        orders = [order for order in permutations(range(many)) if renumbered(one, order) == other]
        self.like(order_to(book_with(many, one), book_with(many, other)), orders[0] if orders else None)

    def test_an_order_that_changes_nothing(self):
        three = Book(3, [[0], [1], [2]])
        self.like(order_to(three, three.in_order([2, 1, 0])), (0, 1, 2))
        self.assertEqual(many_of_kind(three), 1)
        self.assertEqual(least_form(three), three)

    def test_wrong(self):
        for value in ODD:
            self.raises(BadBook("book"), least_form, value)
            self.raises(BadBook("book"), many_of_kind, value)
            self.raises(BadBook("one"), order_to, value, value)
            self.raises(BadBook("other"), order_to, self.book, value)
        self.raises(Misfit("bars"), order_to, self.book, Book(3, [[0, 1]]))
        for value in NO_INTEGERS + (-1, 0, 2, 7, HUGE):
            self.raises(BadNumber("many"), kinds, value)
            self.raises(BadNumber("many"), with_lengths, value)


if __name__ == "__main__":
    unittest.main()

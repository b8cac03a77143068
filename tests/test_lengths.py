"""ringbars.lengths: which bars beat others, and lengths that have a book."""

import unittest
from itertools import combinations, product

from ringbars.errors import BadBook, BadNumber, NoBar, Twice
from ringbars.families import Book, book_of
from ringbars.lengths import Lengths, Trade, at_odds, beats, equals, has_lengths, idle, lengths_for
from ringbars.rings import Ring
from tests.books import all_books, by_lengths, is_trade, least_rows
from tests.books import beats as plain_beats
from tests.books import idle as plain_idle
from tests.common import HUGE, NO_INTEGERS, ODD, Case
from tests.test_families import book_with, some

TEN = "6 : 0 1 2 / 0 1 3 / 0 2 4 / 0 3 5 / 0 4 5 / 1 2 5 / 1 3 4 / 1 4 5 / 2 3 4 / 2 3 5"
NO_ROWS = tuple(value for value in ODD if value != [3, 2, 2]) + ([3, 2, 2, 1], [3, 2, 2, 1, 1, 1], [3, 2, 2, 1, 0],
                                                               [3, 2, 2, 1, -1], [3, 2, 2, 1, True], "32211")


class LengthsTest(Case):

    def setUp(self):
        self.book = book_of(Ring([3, 2, 2, 1, 1]))
        self.ten = Book.read(TEN)

    def test_examples(self):
        book, ten = self.book, self.ten
        self.like([lengths_for(book).lengths, has_lengths(book, [5, 4, 4, 1, 1]), has_lengths(book, [4, 2, 2, 1, 1]),
                   beats(book, 0, 1), beats(book, 1, 0), at_odds(book), at_odds(ten), bool(lengths_for(ten))],
                  [(3, 2, 2, 1, 1), False, False, True, False, None, (0, 1), False])
        small = Book(4, [(0, 1), (0, 2), (0, 3)])
        self.like([idle(small), equals(small), lengths_for(small).lengths, equals(book), idle(book)],
                  [(0,), ((0,), (1, 2, 3)), (1, 2, 2, 2), ((0,), (1, 2), (3, 4)), ()])

    def test_bars_by_all_lots(self):
        for many in (3, 4, 5, 6):
            for shorts in some(all_books(many), 150):
                book = book_with(many, shorts)
                told = {pair: plain_beats(many, shorts, *pair) for pair in product(range(many), repeat=2)
                        if pair[0] != pair[1]}
                for pair in told:
                    self.assertIs(beats(book, *pair), told[pair])
                odd = [pair for pair in combinations(range(many), 2) if told[pair] and told[pair[::-1]]]
                self.like(at_odds(book), odd[0] if odd else None)
                self.like(idle(book), plain_idle(many, shorts))
                self.like(equals(book), self.classes(many, told))
                if many < 6:
                    self.assertIsNone(at_odds(book))

    def classes(self, many, told):
        """All bars in lots of those that do not beat one another."""
        lots = {tuple(other for other in range(many) if other == bar or not told[bar, other] and not told[other, bar])
                for bar in range(many)}
        return tuple(sorted(lots))

    def test_has_lengths(self):
        for many in (3, 4):
            for lengths in product(range(1, 5), repeat=many):
                right = by_lengths(lengths)
                for shorts in all_books(many):
                    self.assertIs(has_lengths(book_with(many, shorts), list(lengths)), shorts == right)
        for lengths in ([1, 1, 1, 1, 1], [3, 2, 2, 1, 1], [HUGE, 1, 1, HUGE, HUGE], [5, 1, 1, 1, 1], [4, 1, 1, 1, 1]):
            for shorts in all_books(5):
                self.assertIs(has_lengths(book_with(5, shorts), lengths), shorts == by_lengths(lengths))

    def test_lengths_of_the_least_sum(self):
        for many, most in ((3, 19), (4, 19), (5, 19), (6, 19)):
            least = least_rows(many, most)
            for shorts in some(all_books(many), 400):
                book = book_with(many, shorts)
                paper = lengths_for(book)
                if shorts in least:
                    self.assertIs(type(paper), Lengths)
                    self.like([paper.lengths], least[shorts])
                    self.assertEqual(sum(paper.lengths) % 2, 1)
                    self.assertTrue(all(paper.lengths[bar] == 1 for bar in idle(book)))
                else:
                    self.assertIs(type(paper), Trade)
                    self.assertEqual([len(paper.short), len(paper.long)], [2, 2])
                    self.assertTrue(is_trade(many, shorts, paper.short, paper.long))
                    self.assertTrue(all(lot == tuple(sorted(lot)) for lot in paper.short + paper.long))
                self.assertEqual(paper, lengths_for(book))

    def test_books_with_lengths(self):
        for many, right in ((3, 4), (4, 12), (5, 81)):
            self.assertEqual(sum(bool(lengths_for(book_with(many, shorts))) for shorts in all_books(many)), right)
        free = [shorts for shorts in all_books(6) if at_odds(book_with(6, shorts)) is None]
        self.assertEqual(len(free), 1684)
        self.assertEqual(set(free), set(least_rows(6, 19)))

    def test_one_lot_and_all_bars_alone(self):
        for many in range(3, 7):
            alone = Book(many, [tuple(range(many - 1))])
            self.like([idle(alone), equals(alone), lengths_for(alone).lengths],
                      [tuple(range(many - 1)), (tuple(range(many - 1)), (many - 1,)), (1,) * (many - 1) + (many,)])
        three = Book(3, [[0], [1], [2]])
        self.like([idle(three), equals(three), lengths_for(three).lengths], [(), ((0, 1, 2),), (1, 1, 1)])

    def test_wrong(self):
        book = self.book
        for value in ODD:
            self.raises(BadBook("book"), beats, value, value, value)
            for call in (at_odds, idle, equals, lengths_for):
                self.raises(BadBook("book"), call, value)
            self.raises(BadBook("book"), has_lengths, value, value)
        for value in NO_ROWS:
            self.raises(BadNumber("lengths"), has_lengths, book, value)
        for value in NO_INTEGERS + (-1, 5, HUGE):
            self.raises(NoBar(value), beats, book, value, value)
            self.raises(NoBar(value), beats, book, 0, value)
        self.raises(NoBar(7), beats, book, 7, 9)
        self.raises(Twice(2), beats, book, 2, 2)


if __name__ == "__main__":
    unittest.main()

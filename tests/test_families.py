"""ringbars.families: books told by their greatest short lots, and steps between them."""

import unittest
from itertools import permutations, product

from ringbars.errors import BadBook, BadLot, BadNumber, BadRing, BadText, Level, Misfit, NoBar, TooMany, Twice
from ringbars.families import Book, Steps, book_of, majority, neighbours, stepped, steps_between
from ringbars.lots import level_lots, short_lots
from ringbars.rings import Ring
from tests.books import all_books, bent_lots, fewest_steps, greatest, steps_of, texts
from tests.books import majority as plain_majority
from tests.books import renumbered as plain_renumbered
from tests.common import EVERY, HUGE, NO_INTEGERS, ODD, UNCLEAR, Case, as_lists, bent_items
from tests.plain import subsets

NO_LOTS = tuple(value for value in ODD if value not in ([], (), [[0, 1], [2]], [[[]]])) + ([[0], 1], [[0], "1"], [[True]])
LISTED = ([], (), [3, 2, 2], (1, 2), [-1])


def book_with(many, shorts):
    """The Book of plain short lots."""
    return Book(many, greatest(shorts))


def some(rows, most):
    """About so many of the rows, evenly chosen."""
    return rows[::1 + len(rows) // most]


class BookTest(Case):

    def setUp(self):
        self.book = book_of(Ring([3, 2, 2, 1, 1]))
        self.three = Book(3, [[2], [0], [1]])

    def test_examples(self):
        book, three = self.book, self.three
        self.like([str(book), book.is_short([1, 3]), len(book.short_lots()), str(book.in_order([1, 2, 3, 4, 0])),
                   [str(one) for one in neighbours(three)]],
                  ["5 : 0 3 / 0 4 / 1 2 / 1 3 4 / 2 3 4", True, 16, "5 : 0 1 / 2 4 / 3 4 / 0 2 3 / 1 2 3",
                   ["3 : 1 2", "3 : 0 2", "3 : 0 1"]])
        apart = [Book(3, [[1, 2]]), Book(3, [[0, 2]]), Book(3, [[0, 1]])]
        self.like([steps_between(apart[0], apart[2]).lots, majority(*apart) == three, str(stepped(three, [2]))],
                  [((1, 2), (2,)), True, "3 : 0 1"])
        self.raises(BadText(0, 5), Book.read, "3 : 0 / 1 2")
        self.raises(BadLot("step"), stepped, book, [1, 3])

    def test_methods_stand_in_the_class(self):
        for name in ("__eq__", "__str__", "is_short", "short_lots", "in_order", "read"):
            self.assertIn(name, vars(Book))

    def test_how_many_books(self):
        self.assertEqual([len(all_books(many)) for many in (3, 4, 5, 6)], [4, 12, 81, 2646])

    def test_all_books(self):
        for many in (3, 4, 5, 6):
            for shorts in some(all_books(many), 300):
                lots = greatest(shorts)
                book = Book(many, as_lists(lots)[::-1])
                self.like([book.many, book.greatest, book.short_lots()], [many, lots, shorts])
                self.assertEqual(book, Book(many, [lot[::-1] for lot in lots]))
                for lot in subsets(many):
                    self.assertIs(book.is_short(list(lot[::-1])), lot in shorts)

    def test_of_each_lot_and_its_others_one_is_short(self):
        for shorts in all_books(5):
            self.assertEqual(len(book_with(5, shorts).short_lots()), 16)

    def test_no_books(self):
        for many in (3, 4, 5):
            rights = {frozenset(greatest(shorts)) for shorts in all_books(many)}
            for shorts in some(all_books(many), 20):
                for lots in bent_lots(many, greatest(shorts)):
                    if len(set(lots)) == len(lots) and frozenset(lots) in rights:
                        self.assertEqual(Book(many, lots).greatest, tuple(sorted(lots, key=lambda lot: (len(lot), lot))))
                    else:
                        self.raises(BadBook("greatest"), Book, many, lots)

    def test_all_rows_of_few_lots(self):
        rights = {frozenset(greatest(shorts)) for shorts in all_books(3)}
        found = 0
        for size in range(4):
            for lots in product(subsets(3), repeat=size):
                right = len(set(lots)) == size and frozenset(lots) in rights
                found += right
                if right:
                    self.assertEqual(set(Book(3, lots).greatest), set(lots))
                else:
                    self.raises(BadBook("greatest"), Book, 3, lots)
        self.assertEqual(found, 9)

    def test_wrong(self):
        for value in NO_INTEGERS + (-1, 0, 2, 7, HUGE):
            self.raises(BadNumber("many"), Book, value, value)
        for value in NO_LOTS:
            self.raises(BadLot("greatest"), Book, 3, value)
        self.raises(BadLot("greatest"), Book, 3, [[9], [0, 0], None])
        self.raises(NoBar(3), Book, 3, [[0], [1, 3, 3], [1, 1]])
        self.raises(NoBar(-1), Book, 3, [[0], [-1]])
        self.raises(NoBar(HUGE), Book, 6, ([HUGE],))
        # Lot by lot: what is twice in one lot comes ahead of what is no bar in the next one.
        self.raises(Twice(1), Book, 3, [[0], [1, 2, 1, 2], [9]])
        self.raises(BadBook("greatest"), Book, 3, [])
        self.raises(BadBook("greatest"), Book, 3, [[]])
        self.raises(BadBook("greatest"), Book, 3, [[0, 1, 2]])
        self.raises(BadBook("greatest"), Book, 3, [[0], [1], [2], [2]])
        self.raises(BadBook("greatest"), Book, 3, [[0, 1], [0]])

    def test_one_lot_and_all_bars_alone(self):
        for many in range(3, 7):
            for bar in range(many):
                lot = tuple(one for one in range(many) if one != bar)
                self.like(Book(many, [lot]).greatest, (lot,))
        self.like(self.three.greatest, ((0,), (1,), (2,)))
        self.raises(BadBook("greatest"), Book, 4, [[0], [1], [2], [3]])

    def test_equality(self):
        book = self.book
        self.assertEqual(book, Book.read(str(book)))
        for other in ODD + (self.three, book.in_order([1, 2, 3, 4, 0]), str(book), book.greatest, Ring([3, 2, 2, 1, 1])):
            self.assertIs(book == other, False)
            self.assertIs(other == book, False)
            self.assertIs(book != other, True)

    def test_is_short_wrong(self):
        for value in ODD:
            if value not in LISTED:
                self.raises(BadLot("lot"), self.book.is_short, value)
        self.raises(NoBar(5), self.book.is_short, [0, 0, 5, 9])
        self.raises(NoBar(-1), self.book.is_short, [-1])
        self.raises(Twice(0), self.book.is_short, [1, 0, 0, 1])

    def test_in_order(self):
        for many in (3, 4, 5):
            for shorts in some(all_books(many), 12):
                for order in permutations(range(many)):
                    told = book_with(many, shorts).in_order(list(order))
                    self.like(told.short_lots(), plain_renumbered(shorts, order))
        for order in [(1, 2, 3, 4, 0), (4, 3, 2, 1, 0), (2, 0, 1, 4, 3)]:
            ring = Ring([5, 3, 2, 2, 1])
            self.assertEqual(book_of(ring.in_order(order)), book_of(ring).in_order(order))
        for value in ODD + ([0, 1, 2, 3], [0, 1, 2, 3, 5], [0, 1, 2, 3, 3], [0, True, 2, 3, 4], [0, 1, 2, 3, 4, 5]):
            self.raises(BadNumber("order"), self.book.in_order, value)

    def test_what_is_passed_stays(self):
        lots = [[2], [1], [0]]
        book = Book(3, lots)
        lots[0].append(1)
        lots.append([5])
        self.like(book.greatest, ((0,), (1,), (2,)))

    def test_book_of(self):
        for lengths in EVERY:
            ring = Ring(lengths)
            if not ring.is_clear:
                self.raises(Level(level_lots(ring)[0]), book_of, ring)
            elif len(ring) > 6:
                self.raises(TooMany("bars", 6), book_of, ring)
            else:
                self.like(book_of(ring).short_lots(), short_lots(ring))
        for value in ODD:
            self.raises(BadRing("ring"), book_of, value)
        self.assertIn([1] * 8, [lengths for lengths in UNCLEAR if len(lengths) > 6])


class StepsTest(Case):

    def setUp(self):
        self.book = book_of(Ring([3, 2, 2, 1, 1]))

    def test_steps(self):
        for many in (3, 4, 5, 6):
            for shorts in some(all_books(many), 60):
                book = book_with(many, shorts)
                behind = steps_of(many, shorts)
                near = neighbours(book)
                self.assertEqual(type(near), tuple)
                self.like([one.short_lots() for one in near], list(behind.values()))
                for lot, one in zip(book.greatest, near):
                    told = stepped(book, list(lot[::-1]))
                    self.assertEqual(told, one)
                    # The step of the others leads back.
                    self.assertEqual(stepped(told, [bar for bar in range(many) if bar not in lot]), book)

    def test_wrong_steps(self):
        for many in (3, 4, 5):
            for shorts in some(all_books(many), 9):
                book = book_with(many, shorts)
                for lot in subsets(many):
                    if lot not in book.greatest:
                        self.raises(BadLot("step"), stepped, book, lot)
        for value in ODD:
            self.raises(BadBook("book"), stepped, value, value)
            self.raises(BadBook("book"), neighbours, value)
            if value not in LISTED:
                self.raises(BadLot("lot"), stepped, self.book, value)
        self.raises(NoBar(7), stepped, self.book, [0, 0, 7])
        self.raises(Twice(0), stepped, self.book, [0, 3, 0])

    def goes(self, one, other, lots):
        """Whether steps lead from one book to another one."""
        for lot in lots:
            self.assertIn(lot, one.greatest)
            one = stepped(one, lot)
        return one == other

    def test_steps_between(self):
        for many in (3, 4, 5):
            for first in some(all_books(many), 12):
                for last, least in fewest_steps(many, first).items():
                    one, other = book_with(many, first), book_with(many, last)
                    paper = steps_between(one, other)
                    self.assertIs(type(paper), Steps)
                    self.assertEqual(len(paper.lots), least)
                    self.assertIs(self.goes(one, other, paper.lots), True)
                    self.assertEqual(paper, steps_between(one, other))

    def test_steps_between_books_of_six_bars(self):
        first = all_books(6)[1234]
        steps = fewest_steps(6, first)
        self.assertEqual(len(steps), 2646)
        one = book_with(6, first)
        for last in some(list(steps), 150):
            other = book_with(6, last)
            for here, there in ((one, other), (other, one)):
                paper = steps_between(here, there)
                self.assertEqual(len(paper.lots), steps[last])
                self.assertIs(self.goes(here, there, paper.lots), True)

    def test_far_and_equal(self):
        one, other = Book(6, [[0, 1, 2, 3, 4]]), Book(6, [[1, 2, 3, 4, 5]])
        paper = steps_between(one, other)
        self.assertEqual(len(paper.lots), 16)
        self.assertIs(self.goes(one, other, paper.lots), True)
        self.like(steps_between(one, Book(6, [[4, 3, 2, 1, 0]])).lots, ())

    def test_majority(self):
        for many in (3, 4):
            for three in product(all_books(many), repeat=3):
                self.check_majority(many, three)
        for three in product(some(all_books(5), 12), some(all_books(5), 7), all_books(5)[::9]):
            self.check_majority(5, three)
        for three in product(all_books(6)[::900], all_books(6)[5::700], all_books(6)[7::500]):
            self.check_majority(6, three)

    def check_majority(self, many, three):
        told = majority(*[book_with(many, shorts) for shorts in three])
        self.like(told.short_lots(), plain_majority(many, three))
        if three[0] == three[1]:
            self.like(told.short_lots(), three[0])
        books = [book_with(many, shorts) for shorts in three]
        # The fewest steps from the one to the other may pass it.
        self.assertEqual(len(steps_between(books[0], books[1]).lots),
                         len(steps_between(books[0], told).lots) + len(steps_between(told, books[1]).lots))

    def test_wrong(self):
        five, four = self.book, Book(4, [[0, 1, 2]])
        for value in ODD:
            self.raises(BadBook("one"), steps_between, value, value)
            self.raises(BadBook("other"), steps_between, five, value)
            self.raises(BadBook("one"), majority, value, value, value)
            self.raises(BadBook("other"), majority, five, value, value)
            self.raises(BadBook("third"), majority, five, four, value)
        self.raises(Misfit("bars"), steps_between, five, four)
        for three in ((five, five, four), (five, four, five), (four, five, five), (five, four, four)):
            self.raises(Misfit("bars"), majority, *three)


class ReadTest(Case):

    def setUp(self):
        self.rights = {many: texts(many) for many in (3, 4, 5)}

    def test_all_texts(self):
        for many, rights in self.rights.items():
            for text, shorts in rights.items():
                book = Book.read(text)
                self.like([str(book), book.short_lots()], [text, shorts])
        for text in list(texts(6))[::50]:
            self.assertEqual(str(Book.read(text)), text)

    def reads(self, items):
        """The text of these items is read, or the right item is told."""
        text = " ".join(items)
        if items[0] in ("3", "4", "5") and text in self.rights[int(items[0])]:
            self.assertEqual(str(Book.read(text)), text)
        else:
            self.raises(BadText(0, self.wrong_item(items)), Book.read, text)

    def wrong_item(self, items):
        """The first item that cannot stand; the last one if only the whole shows it."""
        if items[0] not in ("3", "4", "5", "6"):
            return 0
        if items[1:2] != [":"]:
            return 1
        last = -1
        for at in range(2, len(items)):
            bars = [str(bar) for bar in range(last + 1, int(items[0]))]
            if items[at] == "/" and last >= 0:
                last = -1
            elif items[at] in bars:
                last = int(items[at])
            else:
                return at
        return len(items) if last < 0 else len(items) - 1

    def test_each_item_changed(self):
        others = ("", "/", "0", "1", "2", "3", "4", "5", "6", "-1", "01", "+1", "x", "-0", ":", "0 1", "/ /", "1 /",
                  "\u0661", "9" * 61, "1.0")
        rows = [text for rights in self.rights.values() for text in rights]
        for text in rows[:16] + rows[16::7]:
            for items in bent_items(text.split(" "), others):
                self.reads(items)

    def test_lots_in_another_order(self):
        for text, item in (("3 : 1 / 0 / 2", 6), ("3 : 0 / 1 / 1", 6), ("4 : 0 1 / 0 3 / 0 2", 9), ("3 : 0 1 2", 4),
                           ("3 : 0", 2), ("3 : 0 /", 4), ("3 : 0 / 1", 4), ("3 :", 2), ("3", 1), ("", 0),
                           ("3 : 0 2 1", 4), ("3 : 0 0", 3), ("3 : / 0", 2), ("3 : 3", 2), ("2 : 0", 0), ("7 : 0", 0),
                           ("3 : 0 / 1 / 2 ", 7), ("3 : 0 / 1 / 2 /", 8), ("3 : 0 / 1 / 2 / 0", 8), ("3 : 0 1 / 2", 5)):
            self.raises(BadText(0, item), Book.read, text)

    def test_no_strings(self):
        for value in ODD:
            if not isinstance(value, str):
                self.raises(BadText(0, 0), Book.read, value)
        self.raises(BadText(0, 49999), Book.read, "6 : 0 " + "/ 0 " * 24998 + "9")
        self.raises(BadText(0, 49998), Book.read, "6 : 0" + " / 0" * 24998)


if __name__ == "__main__":
    unittest.main()

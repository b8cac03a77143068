"""What a book tells is told alike of all rings that have it, file by file; steps are what changes pass."""

import unittest
from itertools import combinations, permutations

from ringbars.alikes import first_unlike, same_book
from ringbars.arcs import corner_range
from ringbars.cells import cells, many_cells
from ringbars.check_books import shows_lengths, shows_steps
from ringbars.families import Steps, book_of, steps_between
from ringbars.holes import holes, space_holes
from ringbars.joints import round_joints, stops_at
from ringbars.kinds import least_form, order_to
from ringbars.lengths import Lengths, has_lengths, lengths_for
from ringbars.lines import against, can_line, can_point, many_lineups
from ringbars.lineups import LineUp
from ringbars.lots import greatest_short, least_long, long_three, short_lots
from ringbars.pieces import many_pieces
from ringbars.ranks import ranks_of
from ringbars.rings import Ring
from ringbars.rounds import near_rounds
from ringbars.slack import passings
from ringbars.takenapart import can_lie
from ringbars.webs import web_of
from tests.books import by_lengths, least_rows
from tests.common import Case
from tests.plain import all_choices, all_rounds, partitions, subsets


def rings_of(many, shorts, most):
    """Some rings that have a book: the least one, and others with longer bars."""
    least = least_rows(many, 19)[shorts][0]
    found = [list(least), [3 * length for length in least]]
    for bars in subsets(many):
        lengths = [7 * length + (bar in bars) + 2 * (bar + 1 in bars) for bar, length in enumerate(least)]
        if by_lengths(lengths) == shorts:
            found.append(lengths)
    return [Ring(lengths) for lengths in found[:2] + found[2::5]][:most]


class OneBookTest(Case):

    def setUp(self):
        self.books = [(many, shorts) for many, step in ((3, 1), (4, 2), (5, 7), (6, 170))
                      for shorts in sorted(least_rows(many, 19))[::step]]

    def test_closing_rings_agree(self):
        found = 0
        for many, shorts in self.books:
            rings = rings_of(many, shorts, 4)
            if rings[0].closes:
                told = [self.tells(ring) for ring in rings]
                self.assertTrue(all(one == told[0] for one in told))
                found += len(rings) > 2
        self.assertGreater(found, 15)

    def tells(self, ring):
        """What the book of a ring that closes tells, asked of many files."""
        many = len(ring)
        told = [many_pieces(ring), long_three(ring), many_cells(ring), holes(ring), space_holes(ring), short_lots(ring),
                least_long(ring), greatest_short(ring), round_joints(ring), bool(can_lie(web_of(ring)))]
        told += [can_point(ring, lot) for lot in subsets(many)]
        told += [against(ring, one, other) for one, other in combinations(range(many), 2)]
        told += [near_rounds(ring, one) for one in all_rounds(many)[::7]]
        if many < 6:
            told += [cells(ring, dimension) for dimension in range(many - 2)] + [ranks_of(ring)]
            told += [many_lineups(ring, size) for size in range(1, many + 1)]
        told += [len(stops_at(ring, corner)) == 0 for corner in range(many)]
        return told

    def test_all_rings_agree(self):
        for many, shorts in self.books:
            rings = rings_of(many, shorts, 4)
            for ring in rings:
                book = book_of(ring)
                self.like(book.short_lots(), shorts)
                self.assertEqual(book, book_of(rings[0]))
                self.assertEqual(least_form(book), least_form(book_of(rings[0])))
                self.assertIs(has_lengths(book, ring.lengths), True)
                self.assertIs(shows_lengths(book, Lengths(ring.lengths)), True)
                self.like(lengths_for(book).lengths, tuple(least_rows(many, 19)[shorts][0]))
                self.assertIs(same_book(ring, rings[0]), True)
                self.assertEqual(passings(rings[0], ring).rows, ())
                self.assertEqual(steps_between(book, book_of(rings[0])).lots, ())

    def test_line_ups(self):
        for many, shorts in self.books:
            rings = rings_of(many, shorts, 3)
            for lots in partitions(list(range(many)))[::1 if many < 6 else 9]:
                for strands in all_choices(lots)[::1 if many < 6 else 3]:
                    had = {bool(can_line(ring, LineUp(strands))) for ring in rings}
                    self.assertEqual(len(had), 1)

    def test_lots_passed_are_steps(self):
        for many, step in ((3, 1), (4, 1), (5, 3), (6, 120)):
            books = sorted(least_rows(many, 19))[::step]
            for one, other in permutations(books[:25], 2):
                here, there = rings_of(many, one, 1)[0], rings_of(many, other, 3)[-1]
                rows = passings(here, there).rows
                lots = [lot for _, some in rows for lot in some]
                paper = steps_between(book_of(here), book_of(there))
                self.assertEqual(len(lots), len(paper.lots))
                self.assertEqual(set(lots), set(paper.lots))
                # Where a change passes one lot after another, these are steps.
                if all(len(some) == 1 for _, some in rows):
                    self.assertIs(shows_steps(book_of(here), book_of(there), Steps(lots)), True)
                self.assertEqual(first_unlike(here, there) in lots or
                                 tuple(bar for bar in range(many) if bar not in first_unlike(here, there)) in lots, True)

    def test_rings_in_another_order(self):
        for many, shorts in self.books:
            ring = rings_of(many, shorts, 3)[-1]
            for order in list(permutations(range(many)))[::11]:
                other = ring.in_order(order)
                book = book_of(ring).in_order(order)
                self.assertEqual(book_of(other), book)
                self.assertEqual(book_of(ring).in_order(order_to(book_of(ring), book)), book)
                if ring.closes:
                    self.assertEqual([many_cells(other), holes(other)], [many_cells(ring), holes(ring)])

    def test_rings_that_do_not_close(self):
        for many, in_all in ((3, 3), (4, 4), (5, 5), (6, 6)):
            rings = [Ring(rows[0]) for rows in least_rows(many, 19).values() if 2 * max(rows[0]) > sum(rows[0])]
            self.assertEqual(len(rings), in_all)
            self.assertFalse(any(ring.closes for ring in rings))
            forms = [least_form(book_of(ring)) for ring in rings]
            self.assertTrue(all(form == forms[0] for form in forms))

    def test_spans_are_not_told_by_the_book(self):
        one, other = Ring([3, 2, 2, 1, 1]), Ring([4, 3, 3, 2, 1])
        self.assertIs(same_book(one, other), True)
        self.assertNotEqual(corner_range(one, 0, 2), corner_range(other, 0, 2))


if __name__ == "__main__":
    unittest.main()

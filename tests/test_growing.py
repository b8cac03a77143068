"""ringbars.growing: what changes while the last bar grows."""

import unittest

from ringbars.cells import many_cells
from ringbars.errors import BadNumber, BadRing, TooMany
from ringbars.growing import Change, books_between, change_at
from ringbars.holes import holes
from ringbars.lots import short_lots
from ringbars.pieces import many_pieces
from ringbars.rings import Ring
from ringbars.walls import wall_lots, walls
from tests.common import HUGE, NO_INTEGERS, Case
from tests.plain import lots_by
from tests.test_walls import NO_LENGTHS, TOLD


def told_of(lengths):
    """Pieces, holes and cells by the functions of other files."""
    ring = Ring(lengths)
    if not ring.closes:
        return 0, (), ()
    return many_pieces(ring), holes(ring), many_cells(ring)


class GrowingTest(Case):

    def test_examples(self):
        self.like([(low, high, len(book)) for low, high, book in books_between([1, 1, 1, 1])],
                  [(0, 2, 16), (2, 4, 16), (4, None, 16)])
        self.like([change_at([1, 1, 1, 1], 2).parts, change_at([1, 1, 1, 1], 4).behind],
                  [((1, (1, 8, 1), (30, 60, 24)), (1, (1, 0, 1), (14, 36, 24))), (0, (), ())])

    def test_books(self):
        for lengths in TOLD:
            found = books_between(lengths)
            edges = (0,) + walls(lengths) + (None,)
            self.like([row[:2] for row in found], list(zip(edges, edges[1:])))
            self.like(books_between(tuple(lengths)), found)
            for low, high, book in found:
                top = low + 5 if high is None else high
                doubled = [2 * length for length in lengths]
                for last in {2 * low + 1, 2 * top - 1}:
                    self.like(book, tuple(lots_by(doubled + [last], "short")))
                for last in range(low + 1, min(top, low + 4)):
                    self.like(book, short_lots(Ring(list(lengths) + [last])))

    def test_books_and_walls(self):
        for lengths in TOLD:
            rows = books_between(lengths)
            for (_, wall, ahead), (_, _, behind) in zip(rows, rows[1:]):
                whole = set(range(len(lengths) + 1))
                lots = set(wall_lots(lengths, wall))
                others = {tuple(sorted(whole - set(lot))) for lot in lots}
                self.assertEqual(set(ahead) - set(behind), lots)
                self.assertEqual(set(behind) - set(ahead), others)

    def test_changes(self):
        for lengths in TOLD:
            if len(lengths) < 6:
                doubled = [2 * length for length in lengths]
                for wall in walls(lengths):
                    paper = change_at(tuple(lengths), wall)
                    self.assertIs(type(paper), Change)
                    right = [told_of(doubled + [last]) for last in (2 * wall - 1, 2 * wall + 1)]
                    self.like(paper.parts, tuple(right))
                    self.assertEqual(paper, change_at(lengths, wall))

    def test_last_wall(self):
        for lengths in TOLD:
            if len(lengths) < 6:
                paper = change_at(lengths, sum(lengths))
                self.assertEqual(paper.behind, (0, (), ()))
                self.assertGreater(paper.ahead[0], 0)

    def test_rings_that_do_not_close_ahead(self):
        self.like(change_at([5, 1, 1], 3).ahead, (0, (), ()))
        self.like(change_at([5, 1, 1], 3).behind, told_of([5, 1, 1, 4]))
        self.like(change_at([1, 1000000], 999999).parts, ((0, (), ()), (2, (2,), (2,))))

    def test_long_lengths(self):
        lengths = [1000000, 999999, 999983, 123456, 99999]
        paper = change_at(lengths, sum(lengths))
        self.like(paper.parts, ((1, (1, 0, 0, 1), (30, 150, 240, 120)), (0, (), ())))
        rows = books_between([1000000, 999999, 999983, 7, 123456, 3, 99999])
        self.assertEqual(len(rows), 65)
        self.like(rows[-1][:2], (3223447, None))
        self.assertEqual({len(book) for _, _, book in rows}, {128})
        self.like(books_between([1, 1]), ((0, 2, ((), (0,), (1,), (2,))), (2, None, ((), (0,), (1,), (0, 1)))))

    def test_wrong(self):
        for value in NO_LENGTHS:
            if value not in ([3, 2, 2], (1, 2)):
                self.raises(BadRing("lengths"), books_between, value)
                self.raises(BadRing("lengths"), change_at, value, None)
        for value in NO_INTEGERS + (-2, 0, 1, 3, 5, 6, HUGE):
            self.raises(BadNumber("wall"), change_at, [1, 1, 1, 1], value)
        six = [1, 2, 3, 4, 5, 6]
        self.raises(BadNumber("wall"), change_at, six, 2)
        for wall in walls(six):
            self.raises(TooMany("bars", 6), change_at, six, wall)
        self.raises(TooMany("bars", 6), change_at, [1] * 7, 7)

    def test_what_is_passed_stays(self):
        lengths = [5, 1, 1]
        books_between(lengths)
        change_at(lengths, 5)
        self.assertEqual(lengths, [5, 1, 1])


if __name__ == "__main__":
    unittest.main()

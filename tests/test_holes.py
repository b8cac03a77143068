"""ringbars.holes: holes counted by lots."""

import unittest
from math import comb

from ringbars.cells import many_cells
from ringbars.holes import alternating, holes, space_holes
from ringbars.lots import long_three, short_counts
from ringbars.pieces import many_pieces
from ringbars.ranks import holes_by_rims, mirrored_holes
from ringbars.rings import Ring
from tests.common import CLEAR, Case
from tests.plain import lots_by


class HolesTest(Case):

    def test_examples(self):
        five, small, two = Ring([1, 1, 1, 1, 1]), Ring([2, 1, 1, 1]), Ring([2, 2, 2, 1])
        told = [holes(five), space_holes(five), alternating(five), holes(small), holes(two),
                space_holes(two)]
        self.like(told, [(1, 8, 1), (1, 5, 1), -6, (1, 1), (2, 2), (1, 1)])
        told = [holes(Ring([4, 4, 4, 1, 1])), holes(Ring([4, 2, 2, 2, 1])), holes(Ring([1] * 7)),
                space_holes(Ring([1] * 7))]
        self.like(told, [(2, 4, 2), (1, 2, 1), (1, 6, 30, 6, 1), (1, 7, 22, 7, 1)])

    def test_by_lots(self):
        for lengths in CLEAR:
            many, ring = len(lengths), Ring(lengths)
            shorts = lots_by(lengths, "short")
            for longest in [bar for bar in range(many) if lengths[bar] == max(lengths)]:
                right = [len([lot for lot in shorts if longest in lot and len(lot) == size + 1])
                         + len([lot for lot in shorts if longest in lot and len(lot) == many - 2 - size])
                         for size in range(many - 2)]
                self.like(holes(ring), tuple(right))
            for bar in range(many):
                with_it = [len(lot) for lot in shorts if bar in lot]
                right = [len([size for size in with_it if size <= k + 1])
                         - len([size for size in with_it if size >= many - 1 - k])
                         for k in range(many - 2)]
                self.like(space_holes(ring), tuple(right))

    def test_by_cells_and_ranks(self):
        for lengths in CLEAR:
            if len(lengths) <= 6:
                ring = Ring(lengths)
                self.like(holes(ring), holes_by_rims(ring))
                self.like(space_holes(ring), mirrored_holes(ring))

    def test_facts(self):
        for lengths in CLEAR:
            many, ring = len(lengths), Ring(lengths)
            found = holes(ring)
            self.assertEqual(found, found[::-1])
            self.assertEqual(found[0], many_pieces(ring))
            if long_three(ring) is not None:
                self.like(found, tuple(2 * comb(many - 3, k) for k in range(many - 2)))
            self.like(alternating(ring), sum(number * (-1) ** k for k, number in enumerate(found)))
            cells = many_cells(ring)
            self.assertEqual(alternating(ring), sum(cells[::2]) - sum(cells[1::2]))
            if many % 2 == 0:
                self.assertEqual(alternating(ring), 0)
            for bar in range(many if many % 2 else 0):
                counts = short_counts(ring, bar)
                self.assertEqual(alternating(ring), 2 * (sum(counts[1::2]) - sum(counts[::2])))

    def test_a_short_bar_put_in(self):
        for lengths in CLEAR:
            if len(lengths) < 8:
                before = Ring(lengths)
                after = Ring([2 * length for length in lengths] + [1])
                for count in (holes, space_holes):
                    old = (0,) + count(before) + (0,)
                    new = tuple(old[k] + old[k + 1] for k in range(len(old) - 1))
                    self.like(count(after), new)

    def test_three_bars(self):
        ring = Ring([3, 4, 5])
        self.like([holes(ring), space_holes(ring), alternating(ring)], [(2,), (1,), 2])

    def test_long_bars(self):
        ring = Ring([1000000] * 7)
        self.like(holes(ring), (1, 6, 30, 6, 1))
        self.like(holes(Ring([1000000, 1000000, 1])), (2,))

    def test_wrong(self):
        for call in (holes, space_holes, alternating):
            self.wrong_rings(call)


if __name__ == "__main__":
    unittest.main()

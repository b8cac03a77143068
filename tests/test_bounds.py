"""ringbars.bounds: what bounds leave of each diagonal."""

import unittest
from itertools import combinations, product

from ringbars.bounds import Clash, Ranges, bounded, least_clash
from ringbars.check_bounds import shows_bounded
from ringbars.cuttings import Cutting, cuttings
from ringbars.errors import BadCutting, BadNumber, BadRing, Misfit, NoDiagonal, TooLong, Twice
from ringbars.rings import Ring
from tests.common import CLOSED, HUGE, ODD, OPEN, Case
from tests.plain import all_spans, within

SMALL = ([3, 4, 5], [1, 1, 2], [2, 1, 1, 1], [2, 2, 2, 1], [2, 1, 2, 1], [3, 1, 1, 1],
         [3, 2, 2, 1, 1], [2, 2, 1, 1, 1], [4, 4, 4, 1, 1], [4, 1, 1, 1, 1],
         [2, 1, 2, 1, 2, 1], [1, 1, 2, 1, 1, 3])

# No triples of anything, a low bound and a high one.
NO_TRIPLES = ([None], [1], [()], [((0, 2), 1)], [((0, 2), 1, 2, 3)], ["021"], [((0, 2), -1, 3)],
              [((0, 2), 0, -1)], [((0, 2), 3, 2)], [((0, 2), True, 2)], [((0, 2), 0, False)],
              [((0, 2), "0", 2)], [((0, 2), 0, [2])], {((0, 2), 1, 2): 1}, [{0: 1, 1: 2, 2: 3}])


def choices(diagonals):
    """Many rows of bounds of these diagonals, most of them some bounds of two."""
    told = [(None, None), (0, 0), (0, None), (None, 0), (1, None), (None, 1), (1, 1), (2, 2),
            (2, 3), (3, None), (4, 9), (12, None), (30, 40)]
    rows = [[]]
    for diagonal in diagonals:
        rows += [[(diagonal, low, high)] for low, high in told]
    for one, other in combinations(diagonals, 2):
        for (low, high), (least, most) in product(told[1:10:2], told[2:11:2]):
            rows.append([(other, least, most), [list(one), low, high]])
    if len(diagonals) > 2:
        rows += [[(pair, 1, 2) for pair in diagonals], [[pair, None, 1] for pair in diagonals]]
    return rows


class BoundsTest(Case):

    def setUp(self):
        self.ring, self.fan = Ring([3, 2, 2, 1, 1]), Cutting.fan(5, 0)
        self.six = Cutting(6, [(2, 4), [0, 2], (0, 4)])
        self.even = Ring([2, 2, 2, 2, 2, 2])
        self.far = [((0, 4), 3, None), ((2, 4), None, 1), ((0, 2), None, 1)]

    def test_examples(self):
        ring, fan, even, six, far = self.ring, self.fan, self.even, self.six, self.far
        self.like([bounded(ring, fan, []).ranges, bounded(ring, fan, [((0, 2), 4, None)]).ranges],
                  [(((0, 2), 1, 4), ((0, 3), 0, 2)), (((0, 2), 4, 4), ((0, 3), 2, 2))])
        told = [bool(bounded(even, six, far)), bool(bounded(even, six, far[:2])),
                least_clash(even, six, far), least_clash(ring, fan, [((0, 2), 5, 9)])]
        self.like(told, [False, True, ((0, 2), (0, 4), (2, 4)), ((0, 2),)])

    def test_only_three_together_clash(self):
        for two in combinations(self.far, 2):
            self.assertTrue(bounded(self.even, self.six, two))
            self.like(least_clash(self.even, self.six, two), None)
        self.assertTrue(isinstance(bounded(self.even, self.six, self.far), Clash))

    def test_against_all_spans(self):
        for lengths in SMALL:
            ring = Ring(lengths)
            for cutting in cuttings(len(lengths)):
                rows = all_spans(lengths, cutting.diagonals)
                for bounds in choices(cutting.diagonals):
                    some = [row for row in rows if within(row, cutting.diagonals, bounds)]
                    self.check_one(ring, cutting, bounds, some)

    def check_one(self, ring, cutting, bounds, rows):
        answer = bounded(ring, cutting, bounds)
        self.assertEqual(bool(answer), bool(rows))
        self.assertIs(shows_bounded(ring, cutting, bounds, answer), True)
        self.assertEqual(answer, bounded(ring, cutting, tuple(bounds)))
        if not rows:
            self.assertIs(type(answer), Clash)
            return
        self.assertIs(type(answer), Ranges)
        for at, diagonal in enumerate(cutting.diagonals):
            spans = {row[at] for row in rows}
            self.like(answer.ranges[at], (diagonal, min(spans), max(spans)))
            self.assertEqual(spans, set(range(min(spans), max(spans) + 1)))

    def test_all_cuttings_tell_one_range(self):
        for lengths in CLOSED:
            ring, told = Ring(lengths), {}
            for cutting in cuttings(len(lengths)):
                for diagonal, low, high in bounded(ring, cutting, []).ranges:
                    self.assertEqual(told.setdefault(diagonal, (low, high)), (low, high))

    def test_least_clash(self):
        for lengths in SMALL:
            ring = Ring(lengths)
            for cutting in cuttings(len(lengths))[:5]:
                rows = all_spans(lengths, cutting.diagonals)
                for bounds in choices(cutting.diagonals):
                    told = sorted(bounds, key=lambda row: tuple(row[0]))
                    found = [tuple(tuple(row[0]) for row in some)
                             for size in range(len(told) + 1) for some in combinations(told, size)
                             if not any(within(row, cutting.diagonals, some) for row in rows)]
                    right = found[0] if found else None
                    self.like(least_clash(ring, cutting, bounds), right)

    def test_edges(self):
        three, cutting = Ring([3, 4, 5]), Cutting(3, [])
        self.like(bounded(three, cutting, ()).ranges, ())
        self.like(least_clash(three, cutting, []), None)
        ring, fan = self.ring, self.fan
        self.like(bounded(ring, fan, [[(0, 3), 0, 0], [[0, 2], None, None]]).ranges,
                  (((0, 2), 2, 2), ((0, 3), 0, 0)))
        self.like(bounded(ring, fan, [((0, 2), None, HUGE)]).ranges, bounded(ring, fan, []).ranges)
        self.assertFalse(bounded(ring, fan, [((0, 2), HUGE, None)]))
        self.assertFalse(bounded(ring, fan, [((0, 3), HUGE, HUGE)]))
        self.like(least_clash(ring, fan, [((0, 3), HUGE, HUGE), ((0, 2), 10, None)]), ((0, 2),))

    def test_great_rings(self):
        ring = Ring([1000000, 999999, 999998, 999997, 999996, 1, 2, 3])
        for cutting in cuttings(8):
            for bounds in ([], [(cutting.diagonals[0], 0, 1), (cutting.diagonals[4], 1, HUGE)]):
                self.assertTrue(shows_bounded(ring, cutting, bounds, bounded(ring, cutting, bounds)))
            wide = [(pair, 0, HUGE) for pair in cutting.diagonals]
            self.assertEqual(bounded(ring, cutting, wide), bounded(ring, cutting, []))
            self.assertIsNone(least_clash(ring, cutting, wide))

    def test_wrong(self):
        ring, fan = self.ring, self.fan
        for call in (bounded, least_clash):
            for value in ODD:
                self.raises(BadRing("ring"), call, value, value, value)
                self.raises(BadCutting("cutting"), call, ring, value, value)
                if value not in ([], ()):
                    self.raises(BadNumber("bounds"), call, ring, fan, value)
                    self.raises(NoDiagonal(value), call, ring, fan, [(value, 1, 2)])
            for value in NO_TRIPLES:
                self.raises(BadNumber("bounds"), call, ring, fan, value)
            for value in ([2, 0], (0, 1), (2, 4), (0, 2, 3), (False, 2), "02"):
                self.raises(NoDiagonal(value), call, ring, fan, [((0, 2), 1, 2), (value, 1, 2)])
            self.raises(Twice((0, 2)), call, ring, fan, [((0, 2), 1, 2), ((0, 2), 1, 2)])
            self.raises(Twice([0, 2]), call, ring, fan, [((0, 2), 1, 2), ([0, 2], None, 0)])

    def test_order_of_errors(self):
        ring, fan, six, open_ring = self.ring, self.fan, self.six, Ring([1, 1, 1, 9, 1])
        twice = [((0, 2), 1, 2), ((0, 2), 1, 2)]
        for call in (bounded, least_clash):
            self.raises(BadNumber("bounds"), call, ring, fan, [((9, 9), 1, 2), ((0, 2), 2, 1)])
            self.raises(NoDiagonal((1, 3)), call, ring, fan, twice + [((1, 3), 1, 2)])
            self.raises(BadNumber("bounds"), call, ring, six, 7)
            self.raises(NoDiagonal((0, 3)), call, ring, six, [((0, 3), 1, 2)])
            self.raises(Twice((0, 2)), call, ring, six, twice)
            self.raises(Misfit("bars"), call, ring, six, [])
            self.raises(Twice((0, 2)), call, open_ring, fan, twice)
            self.raises(Misfit("bars"), call, open_ring, six, [])
            self.raises(TooLong(3), call, open_ring, fan, [((0, 2), 9, 9)])
            for lengths in OPEN:
                cutting = Cutting.fan(len(lengths), 1)
                bar = lengths.index(max(lengths))
                self.raises(TooLong(bar), call, Ring(lengths), cutting, [])

    def test_copied(self):
        bounds = [[[0, 2], 4, None]]
        answer = bounded(self.ring, self.fan, bounds)
        bounds[0][1] = 0
        self.like(answer.ranges, (((0, 2), 4, 4), ((0, 3), 2, 2)))
        rows = [[[0, 2], [0, 1, 2], 5, 4]]
        paper = Clash(rows)
        rows[0][0][0] = 7
        self.like(paper.rows, (((0, 2), (0, 1, 2), 5, 4),))


if __name__ == "__main__":
    unittest.main()

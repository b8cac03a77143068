"""ringbars.arcs: arcs, arms, and how far corners can be apart."""

import unittest

from ringbars.arcs import arc_bars, arc_range, arm_range, corner_range
from ringbars.errors import BadNumber, BadRing, NoCorner, TooLong, Twice
from ringbars.rings import Ring
from tests.common import CLOSED, EVERY, HUGE, NO_INTEGERS, ODD, OPEN, Case, Odd
from tests.plain import arc, arm_spans

NO_CORNERS = (None, True, False, -1, 5, HUGE, "1", [1], (0,), {}, Odd())


class ArcsTest(Case):

    def setUp(self):
        self.ring = Ring([3, 2, 2, 1, 1])

    def test_examples(self):
        ring = self.ring
        told = [arc_bars(5, 3, 1), arm_range([2, 7, 1]), arc_range(ring, 0, 2),
                arc_range(ring, 2, 0), corner_range(ring, 0, 2), corner_range(ring, 4, 3)]
        self.like(told, [(3, 4, 0), (4, 10), (1, 5), (0, 4), (1, 4), (1, 1)])
        self.raises(Twice(2), arc_range, ring, 2, 2)

    def test_arc_bars(self):
        for many in range(3, 9):
            for one in range(many):
                for other in range(many):
                    if one != other:
                        bars = arc_bars(many, one, other)
                        self.like(bars, arc(many, one, other))
                        back = arc_bars(many, other, one)
                        self.assertEqual(sorted(bars + back), list(range(many)))

    def test_arm_range(self):
        for lengths in EVERY + ([5], [1], [9, 1], [2, 2], [1] * 20, [30] + [1] * 19):
            spans = arm_spans(lengths)
            self.like(arm_range(lengths), (min(spans), max(spans)))
            self.assertEqual(spans, set(range(min(spans), max(spans) + 1)))
        self.like(arm_range((HUGE,)), (HUGE, HUGE))
        self.like(arm_range([HUGE, 1]), (HUGE - 1, HUGE + 1))

    def test_arm_range_wrong(self):
        for value in ODD:
            if value not in ((1, 2), [3, 2, 2]):
                self.raises(BadNumber("lengths"), arm_range, value)
        for value in ([1] * 21, [0], [1, 0], [1, True], [1, -1], [1, None], ["1"], [[1]], "11"):
            self.raises(BadNumber("lengths"), arm_range, value)

    def test_ranges(self):
        for lengths in CLOSED:
            ring, many = Ring(lengths), len(lengths)
            for one in range(many):
                for other in range(many):
                    if one == other:
                        continue
                    there = arm_spans([lengths[bar] for bar in arc(many, one, other)])
                    back = arm_spans([lengths[bar] for bar in arc(many, other, one)])
                    self.like(arc_range(ring, one, other), (min(there), max(there)))
                    both = there & back
                    self.like(corner_range(ring, one, other), (min(both), max(both)))
                    self.assertEqual(both, set(range(min(both), max(both) + 1)))

    def test_open_rings(self):
        for lengths in OPEN:
            ring, many = Ring(lengths), len(lengths)
            bar = lengths.index(max(lengths))
            for one in range(many):
                other = (one + 2) % many
                there = arm_spans([lengths[bar] for bar in arc(many, one, other)])
                back = arm_spans([lengths[bar] for bar in arc(many, other, one)])
                self.like(arc_range(ring, one, other), (min(there), max(there)))
                self.assertFalse(there & back)
                self.raises(TooLong(bar), corner_range, ring, one, other)

    def test_wrong(self):
        for value in NO_INTEGERS + (2, 9, -3, 0):
            self.raises(BadNumber("many"), arc_bars, value, 0, 0)
        for value in NO_CORNERS:
            self.raises(NoCorner(value), arc_bars, 5, value, 0)
            self.raises(NoCorner(value), arc_bars, 5, 0, value)
            for call in (arc_range, corner_range):
                self.raises(NoCorner(value), call, self.ring, value, 9)
                self.raises(NoCorner(value), call, self.ring, 1, value)
        for call in (arc_range, corner_range):
            for value in ODD:
                self.raises(BadRing("ring"), call, value, 9, 9)
            self.raises(Twice(0), call, self.ring, 0, 0)
        self.raises(Twice(4), arc_bars, 5, 4, 4)
        # Two things wrong at once: corners come ahead of a ring that is open.
        open_ring = Ring([1, 5, 1, 1])
        self.raises(NoCorner(4), corner_range, open_ring, 0, 4)
        self.raises(Twice(3), corner_range, open_ring, 3, 3)
        self.raises(NoCorner(5), corner_range, open_ring, 5, 5)
        self.like(arc_range(open_ring, 0, 2), (4, 6))


if __name__ == "__main__":
    unittest.main()

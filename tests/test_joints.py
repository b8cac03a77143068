"""ringbars.joints: how far joints open."""

import unittest

from ringbars.errors import BadRing, NoCorner, TooLong
from ringbars.joints import folds, opening, round_joints, stops_at, straightens, turns_round
from ringbars.rings import Ring
from tests.common import CLOSED, HUGE, NO_INTEGERS, ODD, OPEN, Case
from tests.plain import arc, arm_spans, sort_of

ASKED = (opening, straightens, folds, turns_round, stops_at)


class JointsTest(Case):

    def test_examples(self):
        ring = Ring([3, 2, 2, 1, 1])
        self.like([opening(ring, 0), opening(ring, 1), opening(ring, 2), round_joints(ring)],
                  [(2, 4), (1, 4), (1, 4), (0, 3, 4)])
        self.like([stops_at(ring, 1), stops_at(ring, 2), straightens(ring, 2), folds(ring, 2)],
                  [((0, 1),), ((0, 1),), True, False])

    def test_against_all_spans(self):
        for lengths in CLOSED:
            ring, many = Ring(lengths), len(lengths)
            turning = []
            for corner in range(many):
                ahead, behind = (corner - 1) % many, (corner + 1) % many
                one, other = lengths[ahead], lengths[corner]
                rest = arm_spans([lengths[bar] for bar in arc(many, behind, ahead)])
                spans = arm_spans([one, other]) & rest
                self.like(opening(ring, corner), (min(spans), max(spans)))
                self.like(straightens(ring, corner), one + other in spans)
                self.like(folds(ring, corner), abs(one - other) in spans)
                if {one + other, abs(one - other)} <= spans:
                    turning.append(corner)
                self.like(turns_round(ring, corner), corner in turning)
            self.like(round_joints(ring), tuple(turning))

    def test_facts(self):
        for lengths in CLOSED:
            ring, many = Ring(lengths), len(lengths)
            for corner in range(many):
                both = sorted(((corner - 1) % many, corner))
                rest = [bar for bar in range(many) if bar not in both]
                lesser = min(both, key=lambda bar: (lengths[bar], bar))
                longest = min(rest, key=lambda bar: (-lengths[bar], bar))
                second = sorted((lesser, longest))
                self.like(straightens(ring, corner), sort_of(lengths, both) != "long")
                self.like(folds(ring, corner), sort_of(lengths, second) != "long")
                stops = tuple(tuple(lot) for lot in (both, second) if sort_of(lengths, lot) == "long")
                self.like(stops_at(ring, corner), stops)
                self.assertEqual(stops == (), turns_round(ring, corner))

    def test_three_bars(self):
        ring = Ring([3, 4, 5])
        self.like([opening(ring, corner) for corner in range(3)], [(4, 4), (5, 5), (3, 3)])
        self.like(round_joints(ring), ())
        self.like(stops_at(ring, 0), ((0, 2), (0, 1)))
        level = Ring([1, 1, 2])
        self.like([straightens(level, corner) for corner in range(3)], [False, True, False])
        self.like([folds(level, corner) for corner in range(3)], [True, False, True])

    def test_equal_bars(self):
        ring = Ring([2, 2, 2, 2, 1])
        self.like(stops_at(ring, 1), ())
        ring = Ring([2, 2, 2, 1])
        # Of two equal bars the one with the lesser number, of the others the first.
        self.like(stops_at(ring, 1), ((0, 1), (0, 2)))
        self.like(stops_at(ring, 2), ((1, 2), (0, 1)))
        self.like(stops_at(ring, 0), ())
        self.like(stops_at(Ring([1000000, 999999, 2, 1]), 1), ((0, 1),))

    def test_wrong(self):
        ring = Ring([3, 2, 2, 1, 1])
        for value in ODD:
            for call in ASKED:
                self.raises(BadRing("ring"), call, value, value)
            self.raises(BadRing("ring"), round_joints, value)
        for call in ASKED:
            for value in NO_INTEGERS + (-1, 5, HUGE):
                self.raises(NoCorner(value), call, ring, value)
                self.raises(NoCorner(value), call, Ring([9, 1, 1, 1, 1]), value)
        for lengths in OPEN:
            bar = lengths.index(max(lengths))
            for call in ASKED:
                self.raises(TooLong(bar), call, Ring(lengths), 0)
            self.raises(TooLong(bar), round_joints, Ring(lengths))


if __name__ == "__main__":
    unittest.main()

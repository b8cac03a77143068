"""ringbars.lots: lots by their sorts."""

import unittest

from ringbars.errors import BadNumber, BadRing, NoBar
from ringbars.lots import greatest_short, least_long, level_lots, long_three, lots_of
from ringbars.lots import short_counts, short_lots, too_long
from ringbars.rings import Ring
from tests.common import CLEAR, CLOSED, EVERY, NO_INTEGERS, ODD, OPEN, Case
from tests.plain import long_three as plain_three
from tests.plain import lots_by, sort_of, subsets

ASKED = (short_lots, level_lots, least_long, greatest_short, too_long, long_three)


class LotsTest(Case):

    def setUp(self):
        self.ring = Ring([3, 2, 2, 1, 1])

    def test_examples(self):
        ring = self.ring
        self.like([lots_of(2), len(short_lots(ring)), short_lots(ring)[5:8], short_counts(ring, 0)],
                  [((), (0,), (1,), (0, 1)), 16, ((4,), (0, 3), (0, 4)), (0, 1, 2, 0, 0, 0)])
        self.like([least_long(ring), greatest_short(ring)],
                  [((0, 1), (0, 2), (0, 3, 4), (1, 2, 3), (1, 2, 4)),
                   ((0, 3), (0, 4), (1, 2), (1, 3, 4), (2, 3, 4))])
        told = [level_lots(Ring([2, 1, 2, 1])), level_lots(Ring([3, 1, 1, 1])),
                too_long(Ring([1, 5, 1, 1])), too_long(ring)]
        self.like(told, [((0, 1), (0, 3), (1, 2), (2, 3)), ((0,), (1, 2, 3)), 1, None])
        told = [long_three(Ring([4, 1, 4, 1, 4])), long_three(ring), long_three(Ring([3, 4, 5])),
                long_three(Ring([2, 2, 1, 1]))]
        self.like(told, [(0, 2, 4), None, (0, 1, 2), None])

    def test_lots_of(self):
        for many in range(1, 9):
            self.like(lots_of(many), tuple(subsets(many)))
        for value in NO_INTEGERS + (0, 9, -1, 10 ** 100):
            self.raises(BadNumber("many"), lots_of, value)

    def test_by_sort(self):
        for lengths in EVERY:
            ring = Ring(lengths)
            self.like(short_lots(ring), tuple(lots_by(lengths, "short")))
            self.like(level_lots(ring), tuple(lots_by(lengths, "level")))
            longs = lots_by(lengths, "long")
            least = [lot for lot in longs
                     if not any(set(other) < set(lot) for other in longs)]
            self.like(least_long(ring), tuple(least))
            shorts = lots_by(lengths, "short")
            greatest = [lot for lot in shorts
                        if not any(set(lot) < set(other) for other in shorts)]
            self.like(greatest_short(ring), tuple(greatest))

    def test_facts(self):
        for lengths in EVERY:
            ring, every = Ring(lengths), set(range(len(lengths)))
            if ring.is_clear:
                turned = {tuple(sorted(every - set(lot))) for lot in least_long(ring)}
                self.assertEqual(turned, set(greatest_short(ring)))
            for lot in subsets(len(lengths)):
                holds = any(set(least) <= set(lot) for least in least_long(ring))
                self.assertEqual(ring.sort_of(lot) == "long", holds)

    def test_too_long(self):
        for lengths in CLOSED:
            self.like(too_long(Ring(lengths)), None)
        for lengths in OPEN:
            self.like(too_long(Ring(lengths)), lengths.index(max(lengths)))
        self.like(too_long(Ring([1000000, 1, 1])), 0)
        self.like(too_long(Ring([2, 1, 1])), None)

    def test_long_three(self):
        for lengths in EVERY:
            self.like(long_three(Ring(lengths)), plain_three(lengths))
        for lengths in OPEN:
            self.like(long_three(Ring(lengths)), None)
        found = [long_three(Ring(lengths)) for lengths in CLEAR]
        self.assertIn((0, 3, 6), found)
        self.assertIn(None, found)

    def test_short_counts(self):
        for lengths in EVERY:
            for bar in range(len(lengths)):
                counts = [0] * (len(lengths) + 1)
                for lot in subsets(len(lengths)):
                    if bar in lot and sort_of(lengths, lot) == "short":
                        counts[len(lot)] += 1
                self.like(short_counts(Ring(lengths), bar), tuple(counts))

    def test_wrong(self):
        for value in ODD:
            for call in ASKED:
                self.raises(BadRing("ring"), call, value)
            self.raises(BadRing("ring"), short_counts, value, value)
        for value in NO_INTEGERS + (5, -1):
            self.raises(NoBar(value), short_counts, self.ring, value)


if __name__ == "__main__":
    unittest.main()

"""ringbars.alikes: whether two rings have one book."""

import unittest
from itertools import permutations

from ringbars.alikes import first_unlike, same_book
from ringbars.errors import BadRing, Misfit
from ringbars.lots import level_lots, short_lots
from ringbars.rings import Ring
from tests.common import EVERY, ODD, Case
from tests.plain import sort_of, subsets


class AlikesTest(Case):

    def test_examples(self):
        ring = Ring([3, 2, 2, 1, 1])
        told = [same_book(ring, Ring([4, 3, 3, 2, 1])), same_book(ring, ring.backwards()),
                first_unlike(ring, ring.backwards()), first_unlike(ring, Ring([2, 2, 2, 1, 1]))]
        self.like(told, [True, False, (0, 1), (0, 1)])
        self.raises(Misfit("bars"), same_book, ring, Ring([3, 4, 5]))

    def test_all_twos(self):
        for one in EVERY:
            for other in EVERY:
                if len(one) != len(other):
                    self.raises(Misfit("bars"), same_book, Ring(one), Ring(other))
                    self.raises(Misfit("bars"), first_unlike, Ring(one), Ring(other))
                    continue
                unlike = [lot for lot in subsets(len(one)) if sort_of(one, lot) != sort_of(other, lot)]
                self.like(first_unlike(Ring(one), Ring(other)), unlike[0] if unlike else None)
                self.like(same_book(Ring(one), Ring(other)), not unlike)
                same = short_lots(Ring(one)) == short_lots(Ring(other))
                self.assertEqual(same, not unlike)
                if same:
                    self.assertEqual(level_lots(Ring(one)), level_lots(Ring(other)))

    def test_order(self):
        for lengths in permutations([2, 1, 1, 1]):
            ring = Ring(lengths)
            self.assertTrue(same_book(ring, ring))
            self.assertTrue(same_book(ring, Ring([2 * length for length in lengths])))
        self.like(first_unlike(Ring([2, 1, 1]), Ring([3, 1, 1])), (0,))
        self.like(first_unlike(Ring([2, 1, 1]), Ring([3, 2, 2])), (0,))

    def test_wrong(self):
        ring = Ring([3, 4, 5])
        for call in (same_book, first_unlike):
            for value in ODD:
                self.raises(BadRing("one"), call, value, ring)
                self.raises(BadRing("one"), call, value, value)
                self.raises(BadRing("other"), call, ring, value)
            self.raises(BadRing("one"), call, [3, 4, 5], Ring([1, 1, 1, 1]))


if __name__ == "__main__":
    unittest.main()

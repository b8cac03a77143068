"""ringbars.check_bounds: which papers about bounds are right."""

import unittest

from ringbars.bounds import Clash, Ranges, bounded
from ringbars.check_bounds import shows_bounded
from ringbars.cuttings import Cutting
from ringbars.errors import BadCutting, BadNumber, BadRing, Misfit, NoDiagonal, TooLong, Twice
from ringbars.papers import Denial, Paper
from ringbars.rings import Ring
from tests.common import ODD, Case, stranger

TOLD = [((0, 2), None, 1), ((0, 3), None, 0)]
ROWS = (((0, 2), (0, 1, 2), 1, 1), ((0, 3), (0, 2, 3), 1, 0))
RIGHT = (((0, 2), 1, 4), ((0, 3), 0, 2))


class CheckBoundsTest(Case):

    def setUp(self):
        self.ring, self.fan = Ring([3, 2, 2, 1, 1]), Cutting.fan(5, 0)

    def shows(self, value, bounds=()):
        answer = shows_bounded(self.ring, self.fan, bounds, value)
        self.assertIs(type(answer), bool)
        return answer

    def test_examples(self):
        six, even = Cutting(6, [(2, 4), [0, 2], (0, 4)]), Ring([2, 2, 2, 2, 2, 2])
        far = [((0, 4), 3, None), ((2, 4), None, 1), ((0, 2), None, 1)]
        one = Clash([[(0, 2), (0, 1, 2), 1, 1], [(0, 3), (0, 2, 3), 1, 0]])
        told = [shows_bounded(self.ring, self.fan, TOLD, one),
                shows_bounded(self.ring, self.fan, TOLD, Clash([((0, 3), (0, 3, 4), 1, 0)])),
                shows_bounded(even, six, far, Clash([((0, 4), (0, 2, 4), 3, 2)]))]
        self.like(told, [True, False, True])

    def test_ranges(self):
        self.assertTrue(self.shows(Ranges(RIGHT)))
        self.assertTrue(self.shows(Ranges([[[0, 2], 1, 4], [[0, 3], 0, 2]])))
        self.assertTrue(self.shows(Ranges(RIGHT), [((0, 2), 1, 4)]))
        wrong = (RIGHT[:1], RIGHT[::-1], RIGHT + RIGHT[:1], RIGHT + RIGHT, (), None, 1, "x",
                 (((0, 2), True, 4), RIGHT[1]), (((False, 2), 1, 4), RIGHT[1]),
                 (((0, 2), 1, 3), RIGHT[1]), (((0, 2), 2, 4), RIGHT[1]), (((0, 2), 1), RIGHT[1]),
                 (RIGHT[0], ((0, 3), False, 2)), (RIGHT[0], ((0, 3), 0, 2, 2)), RIGHT[0],
                 (RIGHT[0], ((0, 3), None, 2)), (RIGHT[0], ((2, 4), 0, 2)), {0: RIGHT})
        for parts in wrong:
            self.assertFalse(self.shows(Ranges(parts)))
        self.assertFalse(self.shows(Ranges(RIGHT), [((0, 2), 2, None)]))
        self.assertFalse(self.shows(Ranges(RIGHT), TOLD))
        self.assertFalse(self.shows(Ranges((((0, 2), 1, 1), ((0, 3), 1, 0))), TOLD))

    def test_clash(self):
        self.assertTrue(self.shows(Clash(ROWS), TOLD))
        # A lead may leave out nothing, and stand several times.
        self.assertTrue(self.shows(Clash(ROWS[:1] + ROWS), TOLD))
        self.assertTrue(self.shows(Clash((((0, 2), (0, 1, 2), 1, 1),) * 3 + ROWS[1:]), TOLD))
        self.assertTrue(self.shows(Clash(ROWS[1:]), TOLD))
        wrong = ((), ((),), (((0, 2),),), ((ROWS[0][0], ROWS[0][1]),), ROWS[:1], ROWS + ROWS[:1],
                 ROWS[::-1], ROWS + ROWS[1:], None, 3, ROWS[0],
                 (ROWS[0], ((0, 3), (0, 3, 4), 0, 0)),
                 (((0, 2), (0, 1, 2), True, 1), ROWS[1]), (((0, 2), (0, 1, 2), 1, 2), ROWS[1]),
                 (((0, 2), (0, 1, 2), 1), ROWS[1]), (((0, 2), (0, 1, 2), 1, 1, 1), ROWS[1]),
                 (((0, 2), (0, 2, 3), 1, 1), ROWS[1]), (((0, 2), (0, 3, 4), 1, 1), ROWS[1]),
                 (((2, 0), (0, 1, 2), 1, 1), ROWS[1]), (((0, 1), (0, 1, 2), 3, 3), ROWS[1]),
                 (((0, 2), (0, 2, 1), 1, 1), ROWS[1]), (((0, 2), (0, 1, 3), 1, 1), ROWS[1]),
                 (((0, 2), None, 1, 1), ROWS[1]), (((0, 2), (False, 1, 2), 1, 1), ROWS[1]),
                 (ROWS[0], ((0, 3), (0, 2, 3), 1, False)), (ROWS[0], ((0, 3), (0, 2, 3), 2, 1)))
        for rows in wrong:
            self.assertFalse(self.shows(Clash(rows), TOLD))
        self.assertFalse(self.shows(Clash(ROWS)))
        self.assertFalse(self.shows(Clash(ROWS), TOLD[:1]))

    def test_each_lead_goes_on_from_those_ahead(self):
        told = [((0, 2), 5, None)]
        rows = (((0, 2), (0, 1, 2), 5, 5), ((0, 3), (0, 2, 3), 3, 7), ((0, 3), (0, 3, 4), 3, 2))
        self.assertTrue(self.shows(Clash(rows), told))
        self.assertFalse(self.shows(Clash(rows[1:]), told))
        self.assertTrue(self.shows(Clash((((0, 3), (0, 2, 3), 3, 9), rows[2])), told))
        self.assertFalse(self.shows(Clash(rows[::2]), told))
        self.assertTrue(self.shows(bounded(self.ring, self.fan, told), told))

    def test_bounds_above_all_bars(self):
        # What is told alone leaves nothing here: any lead to the diagonal tells it.
        told = [((0, 2), 50, None)]
        self.assertTrue(self.shows(Clash([((0, 2), (0, 1, 2), 50, 5)]), told))
        self.assertTrue(self.shows(Clash([((0, 2), (0, 2, 3), 50, 9)]), told))
        self.assertFalse(self.shows(Clash([((0, 2), (0, 1, 2), 50, 9)]), told))
        # A lead from it to another diagonal is a lead, too.
        rows = [((0, 3), (0, 2, 3), 48, 9)]
        self.assertTrue(self.shows(Clash(rows), told))
        self.assertTrue(self.shows(bounded(self.ring, self.fan, told), told))

    def test_other_papers(self):
        for value in ODD:
            self.assertFalse(self.shows(value))
            self.assertFalse(self.shows(Ranges(value)))
            self.assertFalse(self.shows(Clash(value), TOLD))
        below = type("Ranges2", (Ranges,), {})
        for value in (Paper("ranges", RIGHT), Denial("ranges", RIGHT), Clash(RIGHT), below(RIGHT), RIGHT,
                      stranger(Ranges(RIGHT))):
            self.assertFalse(self.shows(value))
        below = type("Clash2", (Clash,), {})
        for value in (Denial("clash", ROWS), Paper("clash", ROWS), Ranges(ROWS), below(ROWS), ROWS,
                      stranger(Clash(ROWS))):
            self.assertFalse(self.shows(value, TOLD))

    def test_three_bars(self):
        ring, cutting = Ring([3, 4, 5]), Cutting(3, [])
        self.assertIs(shows_bounded(ring, cutting, [], Ranges([])), True)
        self.assertIs(shows_bounded(ring, cutting, [], Clash([])), False)
        self.assertIs(shows_bounded(ring, cutting, [], Clash([((0, 1), (0, 1, 2), 3, 1)])), False)

    def test_wrong(self):
        ring, fan, six = self.ring, self.fan, Cutting.fan(6, 0)
        for value in ODD:
            self.raises(BadRing("ring"), shows_bounded, value, value, value, value)
            self.raises(BadCutting("cutting"), shows_bounded, ring, value, value, value)
            if value not in ([], ()):
                self.raises(BadNumber("bounds"), shows_bounded, ring, fan, value, value)
        self.raises(NoDiagonal((1, 3)), shows_bounded, ring, fan, [((1, 3), 1, 2)], None)
        self.raises(Twice((0, 2)), shows_bounded, ring, fan, TOLD + TOLD, None)
        self.raises(Misfit("bars"), shows_bounded, ring, six, [], None)
        self.raises(TooLong(0), shows_bounded, Ring([9, 1, 1, 1, 1]), fan, [], None)


if __name__ == "__main__":
    unittest.main()

"""ringbars.rounds: rounds of directions, and exchanges."""

import unittest
from itertools import product

from ringbars.errors import BadNumber, BadRing, BadRound, Level, TooLong, TooMany
from ringbars.lots import level_lots
from ringbars.rings import Ring
from ringbars.rounds import Exchanges, Held, exchanged, is_round, near_rounds, rounds_between
from tests.common import CLEAR, HUGE, NO_INTEGERS, ODD, OPEN, UNCLEAR, Case
from tests.plain import all_rounds, long_three, near_rounds as plain_near, sort_of, steps_from

NO_ROUNDS = ODD + ([1, 0, 2, 3], [0, 1, 2], [0, 1, 2, 3, 4], (0, 1, 2, 2), (0, 1, 2, 4), "0123",
                   (False, 1, 2, 3), (0, True, 2, 3), (0, 1, 2, -1), {0: 1, 1: 1, 2: 1, 3: 1},
                   ((0,), (1,), (2,), (3,)), (0, 1, 2, None), range(4))


class RoundsTest(Case):

    def setUp(self):
        self.small, self.two = Ring([2, 1, 1, 1]), Ring([2, 2, 2, 1])

    def test_examples(self):
        small, two = self.small, self.two
        told = [near_rounds(small, (0, 1, 2, 3)), exchanged(small, [0, 1, 2, 3], 3),
                exchanged(two, [0, 1, 2, 3], 3), is_round(small, (1, 0, 2, 3))]
        self.like(told, [((0, 1, 3, 2), (0, 2, 1, 3)), None, (0, 3, 1, 2), False])
        told = [len(rounds_between(small, (0, 1, 2, 3), (0, 3, 2, 1)).rounds),
                rounds_between(two, (0, 1, 2, 3), (0, 3, 1, 2)).rounds,
                rounds_between(two, (0, 1, 2, 3), (0, 2, 1, 3)).parts]
        self.like(told, [4, ((0, 1, 2, 3), (0, 3, 1, 2)), ((0, 1, 2),)])

    def test_is_round(self):
        for many in (3, 4, 5):
            ring = Ring([1, 1, 1, 1, 1] if many == 5 else [2, 2, 2, 1][:many])
            found = [row for row in product(range(many), repeat=many) if is_round(ring, row)]
            self.assertEqual(found, all_rounds(many))
            for row in found:
                self.assertIs(is_round(ring, list(row)), True)
        for value in NO_ROUNDS:
            self.assertIs(is_round(self.small, value), False)
        self.assertIs(is_round(Ring([2] + [1] * 7), range(8)), False)
        self.assertIs(is_round(Ring([2] + [1] * 7), tuple(range(8))), True)

    def test_exchanged(self):
        for lengths in CLEAR:
            ring, many = Ring(lengths), len(lengths)
            for one in all_rounds(many)[::7]:
                for at in range(many):
                    self.check_exchange(ring, one, at)
                self.like(near_rounds(ring, list(one)), tuple(plain_near(lengths, one)))

    def check_exchange(self, ring, one, at):
        behind = (at + 1) % len(one)
        answer = exchanged(ring, list(one), at)
        if sort_of(ring.lengths, (one[at], one[behind])) == "long":
            self.assertIsNone(answer)
            return
        row = list(one)
        row[at], row[behind] = row[behind], row[at]
        while row[0] != 0:
            row = row[1:] + row[:1]
        self.like(answer, tuple(row))

    def test_rounds_between(self):
        for lengths in ([3, 4, 5], [2, 1, 1, 1], [2, 2, 2, 1], [1, 1, 1, 1, 1], [3, 2, 2, 1, 1],
                        [4, 4, 4, 1, 1]):
            ring = Ring(lengths)
            rounds = all_rounds(len(lengths))
            for one in rounds:
                steps = steps_from(lengths, one)
                for other in rounds:
                    self.check_between(ring, one, other, steps)

    def check_between(self, ring, one, other, steps):
        answer = rounds_between(ring, list(one), other)
        self.assertEqual(answer, rounds_between(ring, one, list(other)))
        if other not in steps:
            self.assertIs(type(answer), Held)
            self.like(answer.bars, long_three(ring.lengths))
            return
        self.assertIs(type(answer), Exchanges)
        self.assertEqual((answer.rounds[0], answer.rounds[-1]), (one, other))
        self.assertEqual(len(answer.rounds), steps[other] + 1)
        for here, behind in zip(answer.rounds, answer.rounds[1:]):
            self.assertIn(behind, plain_near(ring.lengths, here))

    def test_hands_hang_together(self):
        # Led into one another exactly if the hands are equal: one half of all, or all.
        for lengths in CLEAR:
            if len(lengths) <= 6:
                rounds = all_rounds(len(lengths))
                parts = 1 if long_three(lengths) is None else 2
                self.assertEqual(len(steps_from(lengths, rounds[0])) * parts, len(rounds))

    def test_seven_bars(self):
        for lengths in ([1] * 7, [9, 1, 1, 9, 1, 9, 1], [1, 2, 3, 4, 5, 6, 2]):
            ring = Ring(lengths)
            one, last = tuple(range(7)), (0, 6, 5, 4, 3, 2, 1)
            self.check_between(ring, one, last, steps_from(lengths, one))
            self.check_between(ring, last, (0, 2, 1, 6, 3, 5, 4), steps_from(lengths, last))
            self.assertEqual(rounds_between(ring, one, one), Exchanges([one]))

    def test_wrong_rings(self):
        calls = ((is_round, (None,)), (exchanged, (None, None)), (near_rounds, (None,)),
                 (rounds_between, (None, None)))
        for call, more in calls:
            for value in ODD:
                self.raises(BadRing("ring"), call, value, *more)
            for lengths in OPEN:
                self.raises(TooLong(lengths.index(max(lengths))), call, Ring(lengths), *more)
            for lengths in UNCLEAR:
                ring = Ring(lengths)
                self.raises(Level(level_lots(ring)[0]), call, ring, *more)

    def test_wrong_rounds(self):
        small, right = self.small, (0, 1, 2, 3)
        for value in NO_ROUNDS:
            self.raises(BadRound("one"), near_rounds, small, value)
            self.raises(BadRound("one"), exchanged, small, value, value)
            self.raises(BadRound("one"), rounds_between, small, value, value)
            self.raises(BadRound("other"), rounds_between, small, right, value)
        for value in NO_INTEGERS + (-1, 4, HUGE):
            self.raises(BadNumber("at"), exchanged, small, right, value)

    def test_too_many(self):
        eight = Ring([2, 1, 1, 1, 1, 1, 1, 1])
        one = tuple(range(8))
        self.raises(BadRound("one"), rounds_between, eight, None, one)
        self.raises(BadRound("other"), rounds_between, eight, one, one[:7])
        self.raises(TooMany("bars", 7), rounds_between, eight, one, one)
        self.assertEqual(len(near_rounds(eight, one)), 8)
        self.like(exchanged(eight, one, 7), (0, 7, 1, 2, 3, 4, 5, 6))


if __name__ == "__main__":
    unittest.main()

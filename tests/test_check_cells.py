"""ringbars.check_cells: whether papers of rounds are right."""

import unittest
from itertools import product

from ringbars.check_cells import shows_exchanges
from ringbars.errors import BadRound, TooMany
from ringbars.papers import fixed
from ringbars.rings import Ring
from ringbars.rounds import Exchanges, Held, rounds_between
from tests.common import HUGE, ODD, Case, as_lists, bent_papers
from tests.plain import all_rounds, long_three, near_rounds, steps_from
from tests.test_rounds import NO_ROUNDS

RINGS = ([3, 4, 5], [2, 1, 1, 1], [2, 2, 2, 1], [1, 1, 1, 1, 1], [4, 4, 4, 1, 1], [3, 2, 2, 1, 1])


def is_integer(value):
    return type(value) is int


class CheckCellsTest(Case):

    def setUp(self):
        self.small, self.two = Ring([2, 1, 1, 1]), Ring([2, 2, 2, 1])

    def test_examples(self):
        small, two = self.small, self.two
        one, other = (0, 1, 2, 3), (0, 2, 1, 3)
        told = [shows_exchanges(small, one, other, Exchanges([[0, 1, 2, 3], [0, 2, 1, 3]])),
                shows_exchanges(two, one, other, Held([0, 1, 2])),
                shows_exchanges(small, one, one, Exchanges([[0, 1, 2, 3], [0, 2, 1, 3], [0, 1, 2, 3]]))]
        self.like(told, [True, True, False])

    def plain(self, lengths, steps, one, other, rounds):
        """Whether rounds are right, looked at one by one."""
        rounds = fixed(rounds)
        if not isinstance(rounds, tuple) or other not in steps or len(rounds) != steps[other] + 1:
            return False
        for row in rounds:
            if not isinstance(row, tuple) or not all(map(is_integer, row)) or row not in steps:
                return False
        if (rounds[0], rounds[-1]) != (one, other):
            return False
        return all(there in near_rounds(lengths, here) for here, there in zip(rounds, rounds[1:]))

    def test_all_answers(self):
        for lengths in RINGS:
            ring, rounds = Ring(lengths), all_rounds(len(lengths))
            for one in rounds[::5]:
                for other in rounds[::3]:
                    paper = rounds_between(ring, one, other)
                    self.assertIs(shows_exchanges(ring, list(one), list(other), paper), True)
                    paper = type(paper)(*as_lists(paper.parts))
                    self.assertIs(shows_exchanges(ring, one, other, paper), True)

    def test_bent_exchanges(self):
        for lengths in RINGS[1:]:
            ring, rounds = Ring(lengths), all_rounds(len(lengths))
            one = rounds[0]
            steps = steps_from(lengths, one)
            for other in sorted(steps, key=steps.get)[-2:] + [one]:
                paper = rounds_between(ring, one, other)
                for bad in bent_papers(paper):
                    right = self.plain(lengths, steps, one, other, bad.rounds)
                    self.assertIs(shows_exchanges(ring, one, other, bad), right, bad.rounds)
                for bad in (paper.rounds + paper.rounds[:1], paper.rounds[::-1], (), (one, one),
                            paper.rounds + (one, other)):
                    right = self.plain(lengths, steps, one, other, bad)
                    self.assertIs(shows_exchanges(ring, one, other, Exchanges(bad)), right)

    def test_other_right_ones(self):
        # Each row of near rounds that is no longer than needed is right.
        lengths = [1, 1, 1, 1, 1]
        ring, one, other = Ring(lengths), (0, 1, 2, 3, 4), (0, 2, 1, 4, 3)
        steps, found = steps_from(lengths, one), 0
        for middle in all_rounds(5):
            right = self.plain(lengths, steps, one, other, [one, middle, other])
            paper = Exchanges([one, middle, other])
            self.assertIs(shows_exchanges(ring, one, other, paper), right)
            found += right
        self.assertGreater(found, 1)

    def test_held(self):
        one, rounds = (0, 1, 2, 3), all_rounds(4)
        for lengths in ([2, 2, 2, 1], [1, 2, 2, 2], [2, 1, 1, 1]):
            ring, steps = Ring(lengths), steps_from(lengths, one)
            for other in rounds:
                for bars in product(range(4), repeat=3):
                    right = other not in steps and bars == long_three(lengths)
                    self.assertIs(shows_exchanges(ring, one, other, Held(bars)), right)
        two, other = self.two, (0, 2, 1, 3)
        self.only_right(lambda value: shows_exchanges(two, one, other, value), Held((0, 1, 2)),
                        (Exchanges,))
        self.assertIs(shows_exchanges(self.small, one, other, Held(None)), False)
        self.assertIs(shows_exchanges(two, one, one, Held((0, 1, 2))), False)
        self.assertIs(shows_exchanges(two, one, other, Exchanges([one, other])), False)

    def test_other_values(self):
        one, other = (0, 1, 2, 3), (0, 2, 1, 3)
        paper = Exchanges((one, other))
        self.no_papers(lambda value: shows_exchanges(self.small, one, other, value), paper, (Held,))

    def test_seven_bars(self):
        ring, one, other = Ring([1, 2, 3, 4, 5, 6, 2]), tuple(range(7)), (0, 6, 5, 4, 3, 2, 1)
        paper = rounds_between(ring, one, other)
        self.assertIs(shows_exchanges(ring, one, other, paper), True)
        longer = paper.rounds[:2] + paper.rounds[:1] + paper.rounds[1:]
        self.assertIs(shows_exchanges(ring, one, other, Exchanges(longer)), False)

    def test_wrong(self):
        small, right = self.small, (0, 1, 2, 3)
        self.wrong_rings(shows_exchanges, None, None, None)
        for value in NO_ROUNDS:
            self.raises(BadRound("one"), shows_exchanges, small, value, value, value)
            self.raises(BadRound("other"), shows_exchanges, small, right, value, value)
        eight = Ring([2, 1, 1, 1, 1, 1, 1, 1])
        one = tuple(range(8))
        self.raises(BadRound("other"), shows_exchanges, eight, one, one[:7], None)
        for value in ODD + (Exchanges((one,)), HUGE):
            self.raises(TooMany("bars", 7), shows_exchanges, eight, one, one, value)


if __name__ == "__main__":
    unittest.main()

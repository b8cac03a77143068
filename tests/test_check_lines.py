"""ringbars.check_lines: whether papers of line-ups are right."""

import unittest

from ringbars.check_lines import shows_line, shows_most, shows_signs
from ringbars.errors import BadLineUp, BadLot, BadRing, Misfit, NoBar, TooLong, Twice
from ringbars.lineups import LineUp, pointing
from ringbars.lines import Most, Nets, NoSigns, Signs, TooGreat, can_line, most_on_one, with_signs
from ringbars.rings import Ring
from tests.common import CLOSED, EVERY, ODD, OPEN, Case, as_lists, bent_papers
from tests.plain import all_choices, greatest_net, partitions

FEW = [lengths for lengths in EVERY if len(lengths) <= 5]


class CheckLinesTest(Case):

    def setUp(self):
        self.ring = Ring([3, 2, 2, 1, 1])
        self.told = LineUp([[(2, 1)], [(1, 1), (0, -1)], [(4, -1)], [(3, 1)]])

    def test_examples(self):
        ring, told = self.ring, self.told
        self.like([shows_line(ring, told, Nets([1, 2, 1, 1])),
                   shows_line(ring, pointing(5, (0, 1)), TooGreat([0, 1], 5, 4)),
                   shows_line(ring, told, Nets([1, 2, 1]))], [True, True, False])
        most = Most(LineUp([[(0, 1), (1, -1), (3, 1)], [(2, 1)], [(4, 1)]]))
        self.like([shows_most(ring, most), shows_most(ring, Most(told)),
                   shows_signs(ring, [[0, 1], [2], [3], [4]], Signs(told))], [True, False, True])

    def test_lines(self):
        for lengths in FEW:
            ring = Ring(lengths)
            for lots in partitions(list(range(len(lengths)))):
                for strands in all_choices(lots)[::3]:
                    lineup = LineUp(strands)
                    paper = can_line(ring, lineup)
                    self.assertIs(shows_line(ring, lineup, paper), True)
                    self.assertIs(shows_line(ring, lineup, type(paper)(*as_lists(paper.parts))), True)
                    for bad in bent_papers(paper):
                        self.assertIs(shows_line(ring, lineup, bad), False, bad.parts)

    def test_line_papers_only(self):
        ring = self.ring
        for lineup in (self.told, pointing(5, (0, 1)), LineUp([[(bar, 1) for bar in range(5)]])):
            paper = can_line(ring, lineup)
            self.only_right(lambda value: shows_line(ring, lineup, value), paper)
        self.assertIs(shows_line(ring, self.told, TooGreat((0, 1), 1, 4)), False)
        self.assertIs(shows_line(ring, pointing(5, (0, 1)), Nets((5, 2, 1, 1))), False)
        whole = LineUp([[(bar, 1) for bar in range(5)]])
        self.assertIs(shows_line(ring, whole, TooGreat((0, 1, 2, 3, 4), 9, 0)), True)
        self.assertIs(shows_line(ring, whole, TooGreat((0, 1, 2, 3, 4), 9, False)), False)
        self.assertIs(shows_line(ring, self.told, Nets((True, 2, 1, 1))), False)

    def test_signs(self):
        for lengths in FEW:
            ring = Ring(lengths)
            for lots in partitions(list(range(len(lengths)))):
                paper = with_signs(ring, lots)
                self.assertIs(shows_signs(ring, as_lists(lots[::-1]), paper), True)
                self.assertIs(shows_signs(ring, lots, type(paper)(*as_lists(paper.parts))), True)
                for strands in all_choices(lots):
                    right = greatest_net(lengths, strands) is None
                    self.assertIs(shows_signs(ring, lots, Signs(LineUp(strands))), right)
                if type(paper) is NoSigns:
                    for bad in bent_papers(paper):
                        self.assertIs(shows_signs(ring, lots, bad), False, bad.parts)
                else:
                    great = [sorted(lots)[greatest_net(lengths, strands) or 0] for strands in all_choices(lots)]
                    self.assertIs(shows_signs(ring, lots, NoSigns(great)), False)

    def test_sign_papers_only(self):
        ring = self.ring
        lots = [[0, 1], [2], [3], [4]]
        self.no_papers(lambda value: shows_signs(ring, lots, value), Signs(self.told), (Most, NoSigns))
        bars = [[0, 1, 2, 3], [4]]
        self.only_right(lambda value: shows_signs(ring, bars, value), with_signs(ring, bars))
        for other in ([[0, 2], [1], [3], [4]], [[0], [1], [2], [3], [4]], [[0, 1, 2], [3], [4]]):
            self.assertIs(shows_signs(ring, other, Signs(self.told)), False)
        self.assertIs(shows_signs(ring, lots, Signs([[(0, 1), (1, -1)], [(2, 1)], [(3, 1)], [(4, 1)]])), False)
        self.assertIs(shows_signs(ring, lots, Signs(pointing(6, [0, 1]))), False)
        self.assertIs(shows_signs(ring, lots, Signs(str(self.told))), False)

    def test_most(self):
        for lengths in CLOSED:
            ring, many = Ring(lengths), len(lengths)
            self.assertIs(shows_most(ring, most_on_one(ring)), True)
            if many > 5:
                continue
            sizes = sorted([many - 2, 1, 1] if ring.is_clear else [many])
            for lots in partitions(list(range(many))):
                for strands in all_choices(lots):
                    right = sorted(map(len, lots)) == sizes and greatest_net(lengths, strands) is None
                    self.assertIs(shows_most(ring, Most(LineUp(strands))), right)

    def test_most_papers_only(self):
        ring = self.ring
        self.no_papers(lambda value: shows_most(ring, value), most_on_one(ring), (Signs, Nets))
        for value in (pointing(3, []), pointing(4, []), pointing(6, []), LineUp([[(0, 1), (1, -1)], [(2, 1)]])):
            self.assertIs(shows_most(ring, Most(value)), False)
        self.assertIs(shows_most(Ring([3, 4, 5]), Most(pointing(3, []))), True)
        self.assertIs(shows_most(Ring([3, 4, 5]), Most(LineUp([[(0, 1), (1, -1)], [(2, 1)]]))), False)
        self.assertIs(shows_most(Ring([2, 1, 1]), Most(pointing(3, []))), False)

    def test_wrong(self):
        ring = self.ring
        for value in ODD:
            self.raises(BadRing("ring"), shows_line, value, value, value)
            self.raises(BadRing("ring"), shows_signs, value, value, value)
            self.raises(BadRing("ring"), shows_most, value, value)
            self.raises(BadLineUp("lineup"), shows_line, ring, value, value)
        self.raises(Misfit("bars"), shows_line, ring, pointing(4, []), None)
        self.raises(BadLot("lots"), shows_signs, ring, [[9], None], None)
        self.raises(NoBar(9), shows_signs, ring, [[9, 9], []], None)
        self.raises(Twice(0), shows_signs, ring, [[0, 0], [9]], None)
        self.raises(BadLineUp("lots"), shows_signs, ring, [[0, 1, 2, 3]], None)
        for lengths in OPEN:
            self.raises(TooLong(lengths.index(max(lengths))), shows_most, Ring(lengths), None)


if __name__ == "__main__":
    unittest.main()

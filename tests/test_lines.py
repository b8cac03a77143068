"""ringbars.lines: which bars can stand along one line."""

import unittest
from itertools import combinations

from ringbars.bounds import Ranges
from ringbars.cuttings import Cutting, cuttings
from ringbars.errors import BadLineUp, BadLot, BadNumber, BadRing, BadShape, Misfit, NoBar, TooLong, TooMany
from ringbars.errors import Twice
from ringbars.lineups import LineUp, pointing
from ringbars.lines import Most, Nets, NoSigns, Signs, TooGreat, against, can_line, can_point
from ringbars.lines import many_lineups, most_on_one, shown_lines, with_signs
from ringbars.lots import level_lots
from ringbars.pieces import many_pieces
from ringbars.rings import Ring
from ringbars.shapes import Shape
from tests.common import CLOSED, EVERY, HUGE, NO_INTEGERS, ODD, OPEN, Case, as_lists
from tests.plain import all_choices, greatest_net, lineups, nets, partitions, sort_of, subsets
from tests.walking import all_shapes

FEW = [lengths for lengths in EVERY if len(lengths) <= 5]


def shown(lengths, shape):
    """The strands that a shape shows: its flat triangles are laid on lines, corner by corner."""
    many, spans = len(lengths), dict(zip(shape.cutting.diagonals, shape.spans))
    for bar in range(many):
        spans[tuple(sorted((bar, (bar + 1) % many)))] = shape.scale * lengths[bar]
    left, strands = list(shape.flats), []
    while left:
        seen, grows = [left.pop()], True
        first, second, third = seen[0]
        places = {first: 0, second: spans[first, second]}
        places[third] = [at for at in (spans[first, third], -spans[first, third])
                         if abs(at - places[second]) == spans[second, third]][0]
        while grows:
            grows = False
            for three in list(left):
                for one in seen:
                    common = tuple(sorted(set(one) & set(three)))
                    if len(common) == 2 and spans[common] > 0 and three in left:
                        (corner,) = set(three) - set(common)
                        tried = [at for end in common for sign in (1, -1)
                                 for at in [places[end] + sign * spans[tuple(sorted((end, corner)))]]]
                        places[corner] = [at for at in tried if all(
                            abs(at - places[end]) == spans[tuple(sorted((end, corner)))] for end in common)][0]
                        left.remove(three)
                        seen.append(three)
                        grows = True
        bars = [bar for bar in range(many)
                if any({bar, (bar + 1) % many} <= set(three) for three in seen)]
        if bars:
            strands.append([(bar, 1 if places[(bar + 1) % many] > places[bar] else -1) for bar in bars])
    told = [bar for strand in strands for bar, _ in strand]
    return LineUp(strands + [[(bar, 1)] for bar in range(many) if bar not in told])


class LinesTest(Case):

    def setUp(self):
        self.ring = Ring([3, 2, 2, 1, 1])
        self.told = LineUp([[(2, 1)], [(1, 1), (0, -1)], [(4, -1)], [(3, 1)]])

    def test_examples(self):
        ring, told = self.ring, self.told
        self.like([can_line(ring, told).nets, can_line(ring, pointing(5, [0, 1])).parts,
                   can_point(ring, [1, 2]), can_point(Ring([5, 1, 1]), [1, 2])],
                  [(1, 2, 1, 1), ((0, 1), 5, 4), True, False])
        self.like([against(ring, 0, 3), against(Ring([5, 1, 2, 2, 1]), 1, 2),
                   against(Ring([2, 2, 1]), 0, 1)], [True, False, False])
        self.like([str(with_signs(ring, [[4], [2, 1, 0], [3]]).lineup),
                   with_signs(ring, [[0, 1, 2, 3], [4]]).lots[5:], str(most_on_one(ring).lineup)],
                  ["+0 -1 -2 / +3 / +4", ((0, 1, 2, 3), (4,), (0, 1, 2, 3)), "+0 -1 -2 / +3 / +4"])
        self.like([[many_lineups(Ring(lengths), many) for many in (1, 2, 3)]
                   for lengths in ([1, 1, 1], [2, 1, 1], [5, 1, 1])],
                  [[0, 0, 1], [1, 3, 1], [0, 0, 0]])
        fan = Cutting(5, [(0, 2), (0, 3)])
        self.like([str(shown_lines(ring, Shape(fan, 1, [1, 1], [0, 0, 1]))),
                   str(shown_lines(Ring([2, 2, 1, 1, 1]), Shape(fan, 1, [0, 1], [0, 0, 1])))],
                  ["+0 -1 -2 / +3 / +4", "+0 -1 / +2 / +3 / +4"])

    def test_can_line(self):
        for lengths in FEW:
            for lots in partitions(list(range(len(lengths)))):
                for strands in all_choices(lots):
                    paper = can_line(Ring(lengths), LineUp(as_lists(strands)))
                    told, at = nets(lengths, strands), greatest_net(lengths, strands)
                    if at is None:
                        self.assertIs(type(paper), Nets)
                        self.like(paper.nets, tuple(told))
                    else:
                        self.assertIs(type(paper), TooGreat)
                        lot = tuple(bar for bar, _ in strands[at])
                        self.like(paper.parts, (lot, told[at], sum(told) - told[at]))

    def test_can_point(self):
        for lengths in EVERY:
            ring = Ring(lengths)
            for lot in subsets(len(lengths)):
                right = ring.closes and sort_of(lengths, lot) != "long"
                self.assertIs(can_point(ring, list(lot[::-1])), right)
                if lot:
                    self.assertIs(bool(can_line(ring, pointing(len(lengths), lot))), right)

    def test_against(self):
        for lengths in EVERY:
            for one in range(len(lengths)):
                for other in range(len(lengths)):
                    if one != other:
                        rest = [length for bar, length in enumerate(lengths) if bar not in (one, other)]
                        told = rest + [abs(lengths[one] - lengths[other])]
                        right = 2 * max(told) <= sum(told)
                        self.assertIs(against(Ring(lengths), one, other), right)

    def test_with_signs(self):
        for lengths in FEW + [[2, 1, 2, 2, 1, 1], [5, 1, 1, 1, 1, 1]]:
            ring = Ring(lengths)
            for lots in partitions(list(range(len(lengths)))):
                paper = with_signs(ring, [list(lot[::-1]) for lot in lots[::-1]])
                great = []
                for strands in all_choices(lots):
                    at = greatest_net(lengths, strands)
                    if at is None:
                        self.assertIs(type(paper), Signs)
                        self.like(paper.lineup.strands, strands)
                        break
                    great.append(sorted(lots)[at])
                else:
                    self.assertIs(type(paper), NoSigns)
                    self.like(paper.lots, tuple(great))

    def test_eight_bars_with_signs(self):
        ring = Ring([9, 1, 1, 1, 1, 1, 1, 2])
        paper = with_signs(ring, [[7, 6, 5, 4, 3, 2, 1, 0]])
        self.like(paper.lots, ((0, 1, 2, 3, 4, 5, 6, 7),) * 128)
        level = Ring([8, 1, 1, 1, 1, 1, 1, 2])
        self.assertEqual(str(with_signs(level, [list(range(8))]).lineup), "+0 -1 -2 -3 -4 -5 -6 -7")

    def test_most_on_one(self):
        for lengths in CLOSED:
            ring, many = Ring(lengths), len(lengths)
            size = many - 2 if ring.is_clear else many
            for lot in combinations(range(many), size):
                alone = [(bar,) for bar in range(many) if bar not in lot]
                right = [strands for strands in all_choices([lot] + alone)
                         if greatest_net(lengths, strands) is None]
                if right:
                    break
            self.like(most_on_one(ring).lineup.strands, right[0])
            self.assertIs(type(most_on_one(ring)), Most)

    def test_no_more_on_one(self):
        for lengths in CLOSED:
            ring, many = Ring(lengths), len(lengths)
            for size in (many - 1, many):
                found = [strands for lot in combinations(range(many), size)
                         for strands in all_choices([lot] + [(bar,) for bar in range(many) if bar not in lot])
                         if greatest_net(lengths, strands) is None]
                self.assertEqual(bool(found), not ring.is_clear)

    def test_many_lineups(self):
        for lengths in FEW + [[2, 1, 2, 2, 1, 1], [2, 2, 2, 2, 2, 2], [1, 1, 1, 1, 1, 9]]:
            ring = Ring(lengths)
            for many in range(1, len(lengths) + 1):
                self.like(many_lineups(ring, many), len(lineups(lengths, many)))
            self.assertEqual(many_lineups(ring, len(lengths)), int(ring.closes))
            self.assertEqual(many_lineups(ring, 1) > 0, level_lots(ring) != ())

    def test_parted_further(self):
        # A line-up that is had stays had if a strand is parted, so with both strands of the lot.
        for lengths in ([3, 2, 2, 1, 1], [2, 2, 1, 1, 2]):
            ring = Ring(lengths)
            for strands in lineups(lengths, 3):
                for at, strand in enumerate(strands):
                    for cut in range(1, len(strand)):
                        parts = [strand[:cut], strand[cut:]]
                        finer = LineUp(list(strands[:at]) + parts + list(strands[at + 1:]))
                        self.assertTrue(can_line(ring, finer))

    def test_shown_lines(self):
        rings = [lengths for lengths in CLOSED if len(lengths) <= 6 and max(lengths) < 5]
        for lengths in rings:
            ring, every = Ring(lengths), cuttings(len(lengths))
            for cutting in every[:4] + every[-1:]:
                for shape in all_shapes(lengths, cutting, 60):
                    lineup = shown_lines(ring, shape)
                    self.assertEqual(lineup, shown(lengths, shape), (lengths, str(shape)))
                    self.assertTrue(can_line(ring, lineup))
                    self.assertEqual(lineup, shown_lines(ring, shape.mirrored()))

    def test_shown_at_a_scale(self):
        ring, fan = Ring([1, 1, 1, 1]), Cutting(4, [(0, 2)])
        self.assertEqual(str(shown_lines(ring, Shape(fan, 2, [1], [1, -1]))), "+0 / +1 / +2 / +3")
        self.assertEqual(str(shown_lines(ring, Shape(fan, 1, [2], [0, 0]))), "+0 +1 -2 -3")
        self.assertEqual(str(shown_lines(ring, Shape(fan, 1, [0], [0, 0]))), "+0 -1 / +2 -3")
        three = Cutting(3, [])
        self.assertEqual(str(shown_lines(Ring([2, 1, 1]), Shape(three, 1, [], [0]))), "+0 -1 -2")
        self.assertEqual(str(shown_lines(Ring([1, 3, 2]), Shape(three, 7, [], [0]))), "+0 -1 +2")

    def test_two_pieces_have_the_same(self):
        ring = Ring([4, 4, 4, 1, 1])
        self.assertEqual(many_pieces(ring), 2)
        self.assertEqual(many_lineups(ring, 5), 1)

    def test_long_lengths(self):
        ring = Ring([1000000, 1, 1000000, 1, 1000000, 999999, 1, 1])
        paper = can_line(ring, pointing(8, [0, 2]))
        self.like(paper.nets, (2000000, 1, 1, 1000000, 999999, 1, 1))
        self.assertTrue(most_on_one(ring))


class WrongTest(Case):

    def setUp(self):
        self.ring = Ring([3, 2, 2, 1, 1])

    def test_rings(self):
        for value in ODD:
            for call, more in ((can_line, 1), (can_point, 1), (against, 2), (with_signs, 1), (most_on_one, 0),
                               (many_lineups, 1), (shown_lines, 1)):
                self.raises(BadRing("ring"), call, value, *[value] * more)

    def test_lineups(self):
        for value in ODD + (Nets((1,)), [[(bar, 1)] for bar in range(5)], "+0 / +1 / +2 / +3 / +4"):
            self.raises(BadLineUp("lineup"), can_line, self.ring, value)
        self.raises(Misfit("bars"), can_line, self.ring, pointing(4, []))
        self.raises(Misfit("bars"), can_line, Ring([9, 1, 1]), pointing(4, []))

    def test_lots(self):
        ring = self.ring
        for value in ODD:
            if value not in ([], (), [3, 2, 2], (1, 2), [-1]):
                self.raises(BadLot("lot"), can_point, ring, value)
        self.raises(NoBar(5), can_point, ring, [1, 1, 5])
        self.raises(Twice(1), can_point, Ring([9, 1, 1]), [0, 1, 1])
        for value in NO_INTEGERS + (-1, 5, HUGE):
            self.raises(NoBar(value), against, ring, value, None)
            self.raises(NoBar(value), against, ring, 0, value)
        self.raises(Twice(3), against, ring, 3, 3)

    def test_lists_of_lots(self):
        ring = self.ring
        for value in ODD:
            if value not in ([], (), [[0, 1], [2]], [[[]]]):
                self.raises(BadLot("lots"), with_signs, ring, value)
        for value in ([[[]]], [[0, 1, 2, 3, 4], None], [[0, 1, 2, 3, True]], [[0], [1], [9], ["2"]], [[9], 3],
                      {(0, 1, 2, 3, 4): 1}, [{0: 1, 1: 1, 2: 1, 3: 1, 4: 1}], ["01234"]):
            self.raises(BadLot("lots"), with_signs, ring, value)
        self.raises(NoBar(5), with_signs, ring, [[0, 1], [1, 5, 5], [-1]])
        self.raises(Twice(1), with_signs, ring, [[0, 1], [1, 2, 1], [5]])
        self.raises(NoBar(-1), with_signs, ring, [[0, -1], [1, 1]])
        for value in ([], (), [[]], [[0, 1], [2]], [[0, 1, 2, 3, 4], []], [[0, 1, 2], [2, 3, 4]], [[0, 1, 2, 3]],
                      [[0], [1], [2], [3], [4], [0]]):
            self.raises(BadLineUp("lots"), with_signs, ring, value)
        self.raises(BadLineUp("lots"), with_signs, Ring([9, 1, 1]), [[0, 1]])
        self.assertEqual(with_signs(Ring([9, 1, 1]), [[2], [1, 0]]).lots, ((0, 1), (0, 1)))

    def test_most(self):
        for lengths in OPEN:
            self.raises(TooLong(lengths.index(max(lengths))), most_on_one, Ring(lengths))

    def test_many(self):
        for value in NO_INTEGERS + (-1, 0, 6, HUGE):
            self.raises(BadNumber("many"), many_lineups, self.ring, value)
        seven = Ring([9, 1, 1, 1, 1, 1, 1])
        self.raises(BadNumber("many"), many_lineups, seven, 8)
        self.raises(TooMany("bars", 6), many_lineups, seven, 7)
        self.raises(TooMany("bars", 6), many_lineups, seven, 1)

    def test_shapes(self):
        ring, fan = self.ring, Cutting.fan(5, 0)
        for value in ODD + (fan, Ranges([]), pointing(5, [])):
            self.raises(BadShape("shape"), shown_lines, ring, value)
        bad = Shape(fan, 1, [1, 1], [1, 0, 1])
        self.raises(BadShape("shape"), shown_lines, ring, bad)
        self.raises(BadShape("shape"), shown_lines, ring, Shape(fan, 1, [9, 1], [1, 1, 1]))
        self.raises(Misfit("bars"), shown_lines, Ring([9, 1, 1]), bad)
        self.raises(TooLong(0), shown_lines, Ring([9, 1, 1, 1, 1]), bad)


if __name__ == "__main__":
    unittest.main()

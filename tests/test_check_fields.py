"""ringbars.check_fields: whether papers of places, packed fields and flips are right."""

import unittest
from fractions import Fraction
from itertools import combinations, permutations, product

from ringbars.check_fields import shows_field, shows_flips, shows_packed
from ringbars.cuttings import Cutting, cuttings
from ringbars.errors import BadCutting, BadRing, BadSpans, Misfit, TooLong
from ringbars.fields import InField, TooWide, field_tips, in_field
from ringbars.flips import Flips, flipped_spans, led_to
from ringbars.rings import Ring
from ringbars.sizes import Packed, packed, size_by_lots
from ringbars.whole import whole_spans
from tests.common import CLOSED, HUGE, ODD, OPEN, Case, as_lists, bent_papers
from tests.polys import determinant, forms, fractions_of, pairs, value
from tests.test_fields import NO_PLACES, some_cuttings
from tests.test_flips import led

SMALL = [lengths for lengths in CLOSED if len(lengths) in (4, 5)]
STEPS = [Fraction(number, by) for number, by in ((-1, 2), (0, 1), (1, 3), (1, 1), (2, 1), (7, 3))]


def wide_ones(lengths, cutting, place):
    """All triangles with a side that is greater than both others together."""
    return [(three, side) for three, side, counts, rest in forms(lengths, cutting.diagonals)
            if value((three, side, counts, rest), place) < 0]


def spare_of(lengths, cutting, place):
    """For each triangle by how much two sides are greater than the third at least."""
    told = forms(lengths, cutting.diagonals)
    return pairs([min(value(form, place) for form in told if form[0] == three) for three in cutting.triangles])


def turn(places):
    """The determinant of places less the first one."""
    return determinant([[one - two for one, two in zip(place, places[0])] for place in places[1:]])


def packs(lengths, cutting, bodies):
    """Whether bodies of places, by Python's fractions, pack a field as the second fact of [13] tells."""
    many = len(lengths) - 3
    told = forms(lengths, cutting.diagonals)
    size = Fraction(0)
    for body in bodies:
        size += abs(turn(body))
        if turn(body) == 0 or any(value(form, tip) < 0 for form in told for tip in body):
            return False
    for body, at in product(bodies, range(many + 1)):
        lid = body[:at] + body[at + 1:]
        if any(all(value(form, tip) == 0 for tip in lid) for form in told):
            continue
        others = [one for one in bodies if one is not body and set(lid) <= set(one)]
        if len(others) != 1:
            return False
        (far,) = [tip for tip in others[0] if tip not in lid] or [None]
        if far is None or turn(lid + [body[at]]) * turn(lid + [far]) >= 0:
            return False
    for number in range(2, many + 1):
        size /= number
    return size == Fraction(*size_by_lots(Ring(lengths)))


def from_paper(bodies):
    """The bodies of a paper with Python's fractions."""
    return [[fractions_of(tip) for tip in body] for body in bodies]


class FieldTest(Case):

    def setUp(self):
        self.five, self.fan = Ring([1, 1, 1, 1, 1]), Cutting.fan(5, 0)

    def test_places(self):
        for lengths in SMALL:
            ring = Ring(lengths)
            for cutting in cuttings(len(lengths)):
                for place in product(STEPS, repeat=len(lengths) - 3):
                    told = pairs(place)
                    wide = wide_ones(lengths, cutting, place)
                    paper = in_field(ring, cutting, told)
                    self.assertIs(shows_field(ring, cutting, as_lists(told), paper), True)
                    inside = InField(as_lists(spare_of(lengths, cutting, place)))
                    self.assertIs(shows_field(ring, cutting, told, inside), not wide)
                    self.all_wide(ring, cutting, told, wide)

    def all_wide(self, ring, cutting, place, wide):
        """Just the triangles and sides that are too wide are right, whichever."""
        sides = sorted(set(side for three in cutting.triangles for side in combinations(three, 2)))
        for three, side in product(cutting.triangles, sides):
            self.assertIs(shows_field(ring, cutting, place, TooWide(list(three), list(side))), (three, side) in wide)

    def test_bent_places(self):
        five, fan = self.five, self.fan
        place = [(1, 2), (4, 3)]
        self.only_right(lambda paper: shows_field(five, fan, place, paper), in_field(five, fan, place), (Packed,))
        low = [(1, 2), (1, 3)]
        right = TooWide((0, 2, 3), (2, 3))
        self.assertEqual(in_field(five, fan, low), right)
        self.only_right(lambda paper: shows_field(five, fan, low, paper), right)
        for three, side in (((0, 2, 3), (3, 2)), ((2, 0, 3), (2, 3)), ((0, 2, 3), (0, 2)), ((0, 2, 3), (0, 1)),
                            ((1, 2, 3), (2, 3)), ((0, 2, 3), (2, 3, 3)), ((0, 2, 3), 23), ((0, 2, 3), "23")):
            self.assertIs(shows_field(five, fan, low, TooWide(three, side)), False)

    def test_numbers_only(self):
        # A triangle with corner 1, so that True could stand for it.
        square, across = Ring([1, 1, 1, 1]), Cutting(4, [(1, 3)])
        self.assertIs(shows_field(square, across, [(3, 1)], TooWide((0, 1, 3), (1, 3))), True)
        self.assertIs(shows_field(square, across, [(3, 1)], TooWide((0, True, 3), (1, 3))), False)
        self.assertIs(shows_field(square, across, [(3, 1)], TooWide((False, 1, 3), (1, 3))), False)
        self.assertIs(shows_field(square, across, [(3, 1)], TooWide((0, 1, 3), (True, 3))), False)

    def test_fractions_in_lowest_terms(self):
        five, fan = self.five, self.fan
        place = [(1, 2), (1, 1)]
        self.assertIs(shows_field(five, fan, place, InField([(1, 2), (1, 2), (1, 1)])), True)
        for spare in ([(2, 4), (1, 2), (1, 1)], [(-1, -2), (1, 2), (1, 1)], [(1, 2), (1, 2), 1], [(1, 2), (1, 2)],
                      [(1, 2), (1, 2), (1, True)], [(1, 2), (1, 2), (1, 1), (1, 1)], [(True, 2), (1, 2), (1, 1)]):
            self.assertIs(shows_field(five, fan, place, InField(spare)), False)

    def test_eight_bars(self):
        ring, fan = Ring([1] * 8), Cutting.fan(8, 0)
        self.assertIs(shows_field(ring, fan, [(1, 1)] * 5, InField([(1, 1)] * 6)), True)
        self.assertIs(shows_field(ring, fan, [(1, 1)] * 4 + [(5, 2)], TooWide((0, 6, 7), (0, 6))), True)

    def test_wrong(self):
        five, fan = self.five, self.fan
        for odd in ODD:
            self.raises(BadRing("ring"), shows_field, odd, odd, odd, odd)
            self.raises(BadRing("bars"), shows_field, Ring([3, 4, 5]), odd, odd, odd)
            self.raises(BadCutting("cutting"), shows_field, five, odd, odd, odd)
        for odd in NO_PLACES:
            self.raises(BadSpans("place"), shows_field, five, fan, odd, odd)
        self.raises(BadSpans("place"), shows_field, Ring([9, 1, 1, 1]), fan, [(1, 1)], None)
        self.raises(Misfit("bars"), shows_field, Ring([9, 1, 1, 1]), fan, [(1, 1)] * 2, None)
        self.raises(TooLong(1), shows_field, Ring([1, 9, 1, 1, 1]), fan, [(1, 1)] * 2, None)


class PackedTest(Case):

    def setUp(self):
        self.square, self.across = Ring([1, 1, 1, 1]), Cutting.fan(4, 0)

    def test_examples(self):
        square, across = self.square, self.across
        halves = [[[(0, 1)], [(1, 1)]], [[(2, 1)], [(1, 1)]]]
        self.like([shows_packed(square, across, Packed(halves)), shows_packed(square, across, Packed(halves[:1])),
                   shows_packed(square, across, Packed(halves + halves))], [True, False, False])
        self.assertIs(shows_flips(square, across, (0,), across, Flips([[(0, 2), (2,)], [(1, 3), (0,)]])), True)

    def test_what_packed_tells(self):
        for lengths in [row for row in CLOSED if 4 <= len(row) <= 7]:
            ring = Ring(lengths)
            for cutting in some_cuttings(len(lengths)):
                paper = packed(ring, cutting)
                self.assertIs(shows_packed(ring, cutting, paper), True)
                turned = Packed([list(body[::-1]) for body in paper.bodies[::-1]])
                self.assertIs(shows_packed(ring, cutting, turned), True)
                if len(lengths) < 6:
                    self.assertIs(packs(lengths, cutting, from_paper(paper.bodies)), True)

    def test_bodies_left_out_and_doubled(self):
        for lengths in [row for row in CLOSED if len(row) in (4, 5, 6)]:
            ring = Ring(lengths)
            for cutting in some_cuttings(len(lengths))[::2]:
                bodies = packed(ring, cutting).bodies
                for at in range(len(bodies)):
                    for some in (bodies[:at] + bodies[at + 1:], bodies[:at] + bodies[at:at + 1] + bodies[at:],
                                 bodies[:at] + bodies[:1] + bodies[at + 1:] if at > 0 else bodies[1:]):
                        self.assertIs(shows_packed(ring, cutting, Packed(some)), False)

    def test_no_bodies(self):
        for lengths in ([3, 1, 1, 1], [4, 1, 1, 1, 1], [5, 1, 1, 1, 1, 1], [1, 1, 1, 6, 1, 2], [7] + [1] * 7):
            ring, fan = Ring(lengths), Cutting.fan(len(lengths), 0)
            self.assertIs(shows_packed(ring, fan, Packed([])), True)
            many = len(lengths) - 3
            tips = [tuple([(at + (at == one), 1) for at in range(many)]) for one in range(many + 1)]
            self.assertIs(shows_packed(ring, fan, Packed([tips])), False)
        self.assertIs(shows_packed(self.square, self.across, Packed([])), False)

    def test_all_triangles_of_tips(self):
        # All bodies of three tips of a field with five or six, and all twos, threes, fours of such bodies.
        for lengths in ([1, 1, 1, 1, 1], [2, 2, 1, 1, 1], [3, 2, 2, 1, 1], [3, 3, 1, 1, 1]):
            ring = Ring(lengths)
            for cutting in cuttings(5)[:3]:
                tips = field_tips(ring, cutting)
                bodies = list(combinations(tips, 3))
                found = 0
                for size in range(1, 5):
                    some = list(combinations(bodies, size))
                    for row in some[::1 + len(some) // 400]:
                        right = packs(lengths, cutting, from_paper(row))
                        self.assertIs(shows_packed(ring, cutting, Packed(row)), right, row)
                        found += right
                if len(tips) == 5:
                    self.assertGreater(found, 2)

    def test_tips_within(self):
        # Bodies with a tip that is none of the field, round a place within it: right all the same.
        for lengths in ([1, 1, 1, 1, 1], [3, 2, 2, 1, 1], [2, 2, 1, 1, 1]):
            ring, fan = Ring(lengths), Cutting.fan(5, 0)
            tips = field_tips(ring, fan)
            told = forms(lengths, fan.diagonals)
            middle = tuple(sum(column) / len(tips) for column in zip(*map(fractions_of, tips)))
            edges = [pair for pair in combinations(tips, 2)
                     if any(all(value(form, fractions_of(tip)) == 0 for tip in pair) for form in told)]
            bodies = [pair + (pairs(middle),) for pair in edges]
            for body in bodies:
                self.assertIs(shows_packed(ring, fan, Packed([body])), False)
            self.assertIs(packs(lengths, fan, from_paper(bodies)), True)
            self.assertIs(shows_packed(ring, fan, Packed(bodies)), True)
            self.assertIs(shows_packed(ring, fan, Packed(bodies[1:])), False)
            beyond = tuple(one + 9 for one in middle)
            self.assertIs(shows_packed(ring, fan, Packed([pair + (pairs(beyond),) for pair in edges])), False)

    def test_a_lid_that_does_not_part(self):
        # Two halves on one side of a lid have sizes that add up, but do not pack.
        square, across = self.square, self.across
        left, right = [[(0, 1)], [(1, 1)]], [[(1, 1)], [(2, 1)]]
        for bodies, holds in (([left, right], True), ([left, left], False), ([right, right], False),
                              ([[[(0, 1)], [(2, 1)]]], True), ([left], False), ([left, [[(3, 2)], [(2, 1)]]], False),
                              ([left, [[(1, 1)], [(3, 2)]], [[(3, 2)], [(2, 1)]]], True),
                              ([[[(0, 1)], [(3, 2)]], [[(1, 1)], [(3, 2)]]], False),
                              ([[[(0, 1)], [(0, 1)]], left, right], False), ([[[(-1, 1)], [(1, 1)]]], False),
                              ([left, [[(1, 1)], [(3, 1)]]], False)):
            self.assertIs(shows_packed(square, across, Packed(bodies)), holds, bodies)

    def test_tips_beyond_the_field(self):
        # From 2 to 4 both ends are on faces, and it is as long as the field, which is from 0 to 2.
        ring = Ring([2, 2, 1, 1])
        for ends, right in (((0, 2), True), ((2, 4), False), ((0, 4), False), ((2, 0), True)):
            body = [[(end, 1)] for end in ends]
            self.assertIs(shows_packed(ring, self.across, Packed([body])), right)

    def test_tips_in_any_order(self):
        ring, fan = Ring([3, 2, 2, 1, 2]), Cutting.fan(5, 0)
        bodies = list(packed(ring, fan).bodies)
        for at, order in product(range(len(bodies)), permutations(range(3))):
            turned = [bodies[at][place] for place in order]
            self.assertIs(shows_packed(ring, fan, Packed(bodies[:at] + [turned] + bodies[at + 1:])), True)

    def test_bent(self):
        for lengths in ([1, 1, 1, 1], [3, 2, 2, 1], [1, 1, 1, 1, 1], [3, 2, 2, 1, 2]):
            ring, fan = Ring(lengths), Cutting.fan(len(lengths), 0)
            paper = packed(ring, fan)
            for bad in bent_papers(paper):
                right = self.as_set(bad.bodies) == self.as_set(paper.bodies)
                self.assertIs(shows_packed(ring, fan, bad), right, bad.bodies)
            self.no_papers(lambda one: shows_packed(ring, fan, one), paper)

    def as_set(self, bodies):
        """The bodies whatever the order of them and of their tips, with 1 and True kept apart."""
        try:
            return sorted(sorted(map(repr, body)) for body in bodies)
        except TypeError:
            return None

    def test_fractions_in_lowest_terms(self):
        square, across = self.square, self.across
        for tip in ((2, 2), (-1, -1), (1, True), (True, 1), 1, (1,), (1, 1, 1), "11", None):
            bodies = [[[(0, 1)], [tip]], [[(2, 1)], [tip]]]
            self.assertIs(shows_packed(square, across, Packed(bodies)), False)
        self.assertIs(shows_packed(square, across, Packed([[[(0, 1)], [(HUGE, 1)]]])), False)
        self.assertIs(shows_packed(square, across, Packed([[[(0, 1)], [(1, HUGE)]], [[(1, HUGE)], [(2, 1)]]])), True)

    def test_eight_bars(self):
        ring, fan = Ring([1] * 8), Cutting.fan(8, 0)
        tips = [tuple((1 + (at == one), 1) for at in range(5)) for one in range(6)]
        self.assertIs(shows_packed(ring, fan, Packed([tips])), False)
        self.assertIs(shows_packed(ring, fan, Packed([])), False)
        # A bar that alone is level: the field is one place.
        self.assertIs(shows_packed(Ring([7] + [1] * 7), fan, Packed([])), True)

    def test_wrong(self):
        five, fan = Ring([1, 1, 1, 1, 1]), Cutting.fan(5, 0)
        for odd in ODD:
            self.raises(BadRing("ring"), shows_packed, odd, odd, odd)
            self.raises(BadRing("bars"), shows_packed, Ring([3, 4, 9]), odd, odd)
            self.raises(BadCutting("cutting"), shows_packed, five, odd, odd)
        self.raises(Misfit("bars"), shows_packed, Ring([9, 1, 1, 1]), fan, None)
        self.raises(TooLong(1), shows_packed, Ring([1, 9, 1, 1, 1]), fan, None)
        for lengths in OPEN:
            if len(lengths) > 3:
                fan = Cutting.fan(len(lengths), 0)
                self.raises(TooLong(lengths.index(max(lengths))), shows_packed, Ring(lengths), fan, Packed([]))


class ShowsFlipsTest(Case):

    def setUp(self):
        self.twos, self.fan = Ring([2, 2, 2, 2, 2]), Cutting.fan(5, 0)

    def test_what_led_to_tells(self):
        for lengths in ([1, 1, 1, 1], [2, 2, 2, 2], [2, 2, 2, 2, 2], [3, 2, 2, 1, 2], [2, 1, 2, 2, 1, 2]):
            ring = Ring(lengths)
            every = cuttings(len(lengths))
            for cutting, other in list(product(every, every))[::1 if len(every) < 6 else 7]:
                for row in whole_spans(ring, cutting)[::3]:
                    paper = led_to(ring, cutting, row, other)
                    self.assertIs(shows_flips(ring, cutting, list(row), other, paper), True)
                    self.assertIs(shows_flips(ring, cutting, row, other, Flips(as_lists(paper.rows))), True)

    def test_all_rows_of_flips(self):
        ring, every = self.twos, cuttings(5)
        for row in whole_spans(ring, self.fan):
            rows = [((), self.fan, row)]
            for _ in range(5):
                for told, now, spans in rows:
                    for other in every:
                        self.assertIs(shows_flips(ring, self.fan, row, other, Flips(told)), other == now)
                rows = [(told + ((one, flipped_spans(ring, now, spans, one)[1]),), now.flipped(one),
                         led([2] * 5, now, spans, one)[1]) for told, now, spans in rows for one in now.diagonals]

    def test_there_and_back(self):
        ring, fan = self.twos, self.fan
        there = ((0, 3), (2, 0))
        back = ((2, 4), (2, 4))
        self.assertIs(shows_flips(ring, fan, (2, 4), fan, Flips([])), True)
        self.assertIs(shows_flips(ring, fan, (2, 4), fan, Flips([there, back])), True)
        self.assertIs(shows_flips(ring, fan, (2, 4), fan, Flips([there, back, there, back])), True)
        self.assertIs(shows_flips(ring, fan, (2, 4), fan, Flips([there])), False)
        self.assertIs(shows_flips(ring, fan, (2, 4), fan, Flips([back, there])), False)

    def test_bent(self):
        ring, fan = self.twos, self.fan
        for other in cuttings(5):
            paper = led_to(ring, fan, (2, 4), other)
            if paper.rows:
                for bad in bent_papers(paper):
                    self.assertIs(shows_flips(ring, fan, (2, 4), other, bad), False, bad.rows)
            self.no_papers(lambda one: shows_flips(ring, fan, (2, 4), other, one), paper)
            for more in cuttings(5):
                self.assertIs(shows_flips(ring, fan, (2, 4), more, paper), more == other)
        for rows in ((), ((),), (((0, 3),),), (((0, 3), (2, 0), 0),), 5, None, "ab", (((0, 3), (2, 0, 0)),)):
            self.assertIs(shows_flips(ring, fan, (2, 4), Cutting(5, [(0, 2), (2, 4)]), Flips(rows)), False)

    def test_numbers_only(self):
        square = Ring([1, 1, 1, 1])
        one, other = Cutting(4, [(0, 2)]), Cutting(4, [(1, 3)])
        self.assertIs(shows_flips(square, other, [0], one, Flips([((1, 3), [2])])), True)
        self.assertIs(shows_flips(square, other, [0], one, Flips([((True, 3), [2])])), False)
        ring, row = Ring([1, 1, 2, 2]), (2,)
        right = led_to(ring, one, row, other).rows[0]
        self.assertEqual(right, ((0, 2), (1,)))
        self.assertIs(shows_flips(ring, one, row, other, Flips([right])), True)
        self.assertIs(shows_flips(ring, one, row, other, Flips([((0, 2), (True,))])), False)
        self.assertIs(shows_flips(ring, one, row, other, Flips([((False, 2), (1,))])), False)

    def test_long_bars(self):
        # led_to raises TooMany for such a ring, the check does not.
        ring = Ring([20, 30, 20, 30, 20])
        paper = Flips([((0, 3), (20, 20))])
        come = led([20, 30, 20, 30, 20], self.fan, (30, 20), (0, 3))
        self.assertEqual(come[0], [(0, 2), (2, 4)])
        paper = Flips([((0, 3), come[1])])
        self.assertIs(shows_flips(ring, self.fan, (30, 20), Cutting(5, come[0]), paper), True)
        self.raises(BadSpans("spans"), shows_flips, ring, self.fan, (31, 20), self.fan, paper)
        self.raises(BadSpans("spans"), shows_flips, ring, self.fan, (HUGE, HUGE), self.fan, paper)

    def test_three_bars(self):
        three, none = Ring([2, 2, 2]), Cutting(3, [])
        self.assertIs(shows_flips(three, none, (), none, Flips([])), True)
        self.assertIs(shows_flips(three, none, (), none, Flips([((0, 1), ())])), False)
        self.raises(BadSpans("spans"), shows_flips, Ring([1, 1, 1]), none, (), none, Flips([]))

    def test_wrong(self):
        twos, fan, four = self.twos, self.fan, Cutting.fan(4, 0)
        for odd in ODD:
            self.raises(BadRing("ring"), shows_flips, odd, odd, odd, odd, odd)
            self.raises(BadCutting("cutting"), shows_flips, twos, odd, odd, odd, odd)
            self.raises(BadCutting("other"), shows_flips, twos, fan, (9, 9), odd, odd)
            if odd != (1, 2):
                self.raises(BadSpans("spans"), shows_flips, twos, fan, odd, odd, odd)
        for row in ((1, 2), (0, 0), (2, 6), (-2, 2)):
            self.raises(BadSpans("spans"), shows_flips, twos, fan, row, fan, None)
        self.raises(BadCutting("other"), shows_flips, Ring([99, 1, 1]), fan, (1, 2), None, None)
        self.raises(Misfit("bars"), shows_flips, Ring([99, 1, 1, 1]), fan, (1, 2), fan, None)
        self.raises(Misfit("bars"), shows_flips, Ring([99, 1, 1, 1, 1]), fan, (1, 2), four, None)
        self.raises(Misfit("bars"), shows_flips, Ring([99, 1, 1, 1]), fan, (1, 2), four, None)
        self.raises(TooLong(2), shows_flips, Ring([1, 1, 99, 1, 1]), fan, (1, 2), fan, None)


if __name__ == "__main__":
    unittest.main()

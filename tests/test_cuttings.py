"""ringbars.cuttings: cuttings, their triangles, and flips."""

import unittest

from ringbars.cuttings import Cutting, cutting_at, cuttings, flips_between
from ringbars.errors import BadCutting, BadNumber, BadText, Misfit, NoCorner, NoDiagonal
from ringbars.errors import NoTriangle, Twice
from tests.common import HUGE, NO_INTEGERS, ODD, Case
from tests.plain import all_cuttings, sides, triangles

COUNTS = {3: 1, 4: 2, 5: 5, 6: 14, 7: 42, 8: 132}


class CuttingsTest(Case):

    def setUp(self):
        self.fan = Cutting.fan(5, 0)
        self.six = Cutting(6, [(2, 4), [0, 2], (0, 4)])

    def test_examples(self):
        fan, six = self.fan, self.six
        told = [str(fan), six.triangles, six.sides((0, 2, 4)), six.beside([0, 2]),
                str(six.flipped((0, 2)))]
        self.like(told, ["5 : 0 2 / 0 3", ((0, 1, 2), (0, 2, 4), (0, 4, 5), (2, 3, 4)),
                         ((0, 2), (0, 4), (2, 4)), ((0, 1, 2), (0, 2, 4)), "6 : 0 4 / 1 4 / 2 4"])
        told = [[str(one) for one in cuttings(4)], cutting_at(5, 1).diagonals, str(fan.turned(1)),
                len(flips_between(fan, Cutting.read("5 : 1 3 / 1 4")))]
        self.like(told, [["4 : 0 2", "4 : 1 3"], ((0, 2), (2, 4)), "5 : 1 4 / 2 4", 3])
        self.raises(BadText(0, 6), Cutting.read, "5 : 0 2 / 1 3")

    def test_methods_stand_in_the_class(self):
        for name in ("__eq__", "__str__", "sides", "beside", "flipped", "turned", "read", "fan"):
            self.assertIn(name, vars(Cutting))

    def test_counts(self):
        for many, count in COUNTS.items():
            self.assertEqual(len(cuttings(many)), count)
            self.like([one.diagonals for one in cuttings(many)], all_cuttings(many))

    def test_attributes(self):
        for many in COUNTS:
            for row in all_cuttings(many):
                one = Cutting(many, [list(pair) for pair in row[::-1]])
                self.like(one.many, many)
                self.like(one.diagonals, row)
                self.like(one.triangles, tuple(triangles(many, row)))
                self.assertEqual(len(one.triangles), many - 2)

    def test_sides_and_beside(self):
        for many in COUNTS:
            for one in cuttings(many):
                joined = sides(many, one.diagonals)
                for three in one.triangles:
                    told = one.sides(list(three))
                    self.like(told, tuple(sorted(told)))
                    self.assertEqual({corner for pair in told for corner in pair}, set(three))
                    self.assertTrue(all(pair in joined for pair in told))
                for pair in one.diagonals:
                    self.like(one.beside(pair), tuple(three for three in one.triangles
                                                      if set(pair) <= set(three)))
                    self.assertEqual(len(one.beside(list(pair))), 2)

    def test_flipped(self):
        for many in COUNTS:
            rows = all_cuttings(many)
            for one in cuttings(many):
                for pair in one.diagonals:
                    stay = set(one.diagonals) - {pair}
                    near = [row for row in rows if set(row) > stay and pair not in row]
                    self.assertEqual(len(near), 1)
                    flipped = one.flipped(list(pair))
                    self.like(flipped.diagonals, near[0])
                    back = set(flipped.diagonals) - stay
                    self.assertEqual(flipped.flipped(back.pop()), one)

    def test_turned(self):
        for many in COUNTS:
            for one in cuttings(many):
                for number in range(many):
                    turned = one.turned(number)
                    right = sorted(tuple(sorted(((i - number) % many, (j - number) % many)))
                                   for i, j in one.diagonals)
                    self.like(turned.diagonals, tuple(right))
                    self.assertEqual(turned.turned((many - number) % many), one)

    def test_fan(self):
        for many in COUNTS:
            for corner in range(many):
                fan = Cutting.fan(many, corner)
                self.assertEqual(len(fan.diagonals), many - 3)
                self.assertTrue(all(corner in pair for pair in fan.diagonals))
        self.assertEqual(str(Cutting.fan(3, 2)), "3 :")
        for value in NO_INTEGERS + (2, 9, -1):
            self.raises(BadNumber("many"), Cutting.fan, value, 9)
        for value in NO_INTEGERS + (-1, 4, HUGE):
            self.raises(NoCorner(value), Cutting.fan, 4, value)

    def test_wrong_diagonals(self):
        for value in NO_INTEGERS + (2, 9, 0, -3, HUGE):
            self.raises(BadNumber("many"), Cutting, value, None)
        for value in ODD:
            if value not in ([], ()):
                self.raises(BadCutting("diagonals"), Cutting, 3, value)
            self.raises(BadCutting("diagonals"), Cutting, 5, value)
        wrong = ([(0, 2)], [(0, 2), (0, 3), (2, 4)], [(0, 2), (1, 3)], [(0, 2), (0, 1)],
                 [(0, 2), (0, 4)], [(0, 2), (3, 0)], [(0, 2), (2, 2)], [(0, 2), (2, 5)],
                 [(0, 2), (-2, 2)], [(0, 2), (-1, 2)], [(0, 2), (0, 2, 4)], [(0, 2), (0,)], [(0, 2), "03"],
                 [(0, 2), None], [(False, 2), (0, 3)], [(0, 2), (True, 3)], [(0, 2), ((0,), 3)],
                 {(0, 2): 1, (0, 3): 1}, "0 2", [(0, 2), 5])
        for value in wrong:
            self.raises(BadCutting("diagonals"), Cutting, 5, value)
        self.raises(BadCutting("diagonals"), Cutting, 3, [(0, 2)])

    def test_twice(self):
        self.raises(Twice((0, 2)), Cutting, 5, [(0, 2), (0, 2)])
        self.raises(Twice((0, 2)), Cutting, 5, [[0, 2], [0, 2]])
        self.raises(Twice((1, 3)), Cutting, 8, [(1, 3), (3, 5), [1, 3], (3, 5), (5, 7)])
        # Crossing is told ahead of what stands there twice.
        self.raises(BadCutting("diagonals"), Cutting, 6, [(0, 2), (0, 2), (1, 3)])
        self.raises(BadCutting("diagonals"), Cutting, 5, [(0, 2), (0, 2), (0, 2)])

    def test_copied(self):
        rows = [[0, 2], [0, 3]]
        one = Cutting(5, rows)
        rows[0][1] = 9
        rows.append([2, 4])
        self.like(one.diagonals, ((0, 2), (0, 3)))
        self.assertEqual(one.triangles, ((0, 1, 2), (0, 2, 3), (0, 3, 4)))

    def test_equality(self):
        self.assertEqual(self.fan, Cutting(5, ([0, 3], [0, 2])))
        for other in (Cutting.fan(5, 1), Cutting(3, []), "5 : 0 2 / 0 3", ((0, 2), (0, 3)), None, 5):
            self.assertIs(self.fan == other, False)
            self.assertIs(self.fan != other, True)

    def test_wrong_parts(self):
        six = self.six
        for value in ODD + ([0, 2, 3], (0, 4, 2), (2, 0, 4), (0, 2), [0, 2, 4, 5], (False, 2, 4),
                            "024", ((0, 2, 4),)):
            self.raises(NoTriangle(value), six.sides, value)
        for value in ODD + ([2, 0], (0, 1), (0, 5), (1, 3), (0, 2, 4), (False, 2), ("0", "2"), "02"):
            self.raises(NoDiagonal(value), six.beside, value)
            self.raises(NoDiagonal(value), six.flipped, value)
        for value in NO_INTEGERS + (-1, 6, HUGE):
            self.raises(NoCorner(value), six.turned, value)
        self.raises(NoDiagonal((0, 2)), Cutting(3, []).flipped, (0, 2))

    def test_cutting_at(self):
        for many, count in COUNTS.items():
            self.assertEqual([cutting_at(many, number) for number in (0, count - 1)],
                             [cuttings(many)[0], cuttings(many)[-1]])
            for value in NO_INTEGERS + (-1, count, HUGE):
                self.raises(BadNumber("number"), cutting_at, many, value)
        for value in NO_INTEGERS + (2, 9, -1, 0):
            self.raises(BadNumber("many"), cuttings, value)
            self.raises(BadNumber("many"), cutting_at, value, -1)

    def test_flips_between(self):
        for many in (3, 4, 5, 6):
            every = cuttings(many)
            for one in every:
                steps = {one.diagonals: 0}
                queue = [one]
                for here in queue:
                    for pair in here.diagonals:
                        near = here.flipped(pair)
                        if near.diagonals not in steps:
                            steps[near.diagonals] = steps[here.diagonals] + 1
                            queue.append(near)
                self.assertEqual(len(steps), len(every))
                for other in every:
                    row = flips_between(one, other)
                    self.check_flips(row, one, other, steps[other.diagonals])

    def check_flips(self, row, one, other, steps):
        self.assertIs(type(row), tuple)
        self.assertEqual((row[0], row[-1], len(row)), (one, other, steps + 1))
        for here, behind in zip(row, row[1:]):
            self.assertIn(behind, [here.flipped(pair) for pair in here.diagonals])

    def test_flips_of_eight_bars(self):
        one, other = cuttings(8)[0], cuttings(8)[131]
        row = flips_between(one, other)
        self.check_flips(row, one, other, len(row) - 1)
        self.assertEqual(row, flips_between(one, other))
        self.assertEqual(flips_between(one, one), (one,))

    def test_flips_wrong(self):
        for value in ODD:
            self.raises(BadCutting("one"), flips_between, value, value)
            self.raises(BadCutting("other"), flips_between, self.fan, value)
        self.raises(Misfit("bars"), flips_between, self.fan, self.six)

    def test_read(self):
        for many in COUNTS:
            for one in cuttings(many):
                self.assertEqual(Cutting.read(str(one)), one)
                self.assertEqual(str(Cutting.read(str(one))), str(one))
        self.assertEqual(Cutting.read("3 :"), Cutting(3, []))

    def test_read_wrong(self):
        for value in ODD:
            if not isinstance(value, str):
                self.raises(BadText(0, 0), Cutting.read, value)
        wrong = {"": 0, "2 :": 0, "9 :": 0, "3": 1, "3 ;": 1, "3 : ": 2, "3 : 0": 2, "3  :": 1,
                 "4 :": 2, "4 : 0": 3, "4 : 0 2 /": 4, "4 : 0 2 ": 4, "5 : 0 2": 4, "5 : 0 2 /": 5,
                 "5 : 0 2 / 0": 6, "5 : 0 2 0 3": 4, "5 : 0 2 / 0 3 / 2 4": 7, "5 : 4 2 / 0 3": 3,
                 "5 : 5 7 / 0 3": 2, "5 : -1 2 / 0 3": 2, "5 : 0 1 / 0 3": 3, "5 : 0 4 / 0 3": 3,
                 "5 : 0 5 / 0 3": 3, "5 : 0 0 / 0 3": 3, "5 : 2 0 / 0 3": 3, "5 : 0 3 / 0 2": 6,
                 "5 : 0 2 / 0 2": 6, "5 : 2 4 / 1 4": 5, "5 : 1 3 / 0 3": 5, "5 : 1 3 / 2 4": 6,
                 "5 : 1 4 / 2 4 ": 7, "5 : 2 4 / 3 4": 6, "5 : 2 4 / 3": 6, "5 : 2 4 / 4 4": 6,
                 "5 : 0 02 / 0 3": 3, "05 : 0 2 / 0 3": 0, "5 : 0 2 / 0 +3": 6, "5:": 0,
                 "5 : 00 2 / 0 3": 2, "5 : x 2 / 0 3": 2, "5 :  2 / 0 3": 2, "5 : 0 2 | 0 3": 4,
                 "5 : 0 " + "1" * 61 + " / 0 3": 3, "8 : 0 7 / 0 3": 3}
        for text, item in wrong.items():
            self.raises(BadText(0, item), Cutting.read, text)

    def test_read_each_item_exchanged(self):
        items = str(self.six).split(" ")
        for at in range(len(items)):
            for item in ("", "x", "-1", "1" * 61, "True", "1.0", "; "):
                told = items[:at] + item.split(" ") + items[at + 1:]
                self.raises(BadText(0, at), Cutting.read, " ".join(told))
            if at < len(items) - 1:
                self.raises(BadText(0, at + 1), Cutting.read, " ".join(items[:at + 1]))


if __name__ == "__main__":
    unittest.main()

"""ringbars.paths: slides, and paths from shape to shape."""

import unittest

from ringbars.bounds import bounded
from ringbars.check_shapes import shows_path, shows_within
from ringbars.cuttings import Cutting, cuttings
from ringbars.errors import BadNumber, BadPaper, BadRing, BadShape, Misfit, NoDiagonal
from ringbars.errors import TooLong, Twice
from ringbars.papers import Paper
from ringbars.paths import Apart, Kept, Path, joined_paths, path_between, path_within, shape_on
from ringbars.paths import turned_path
from ringbars.rings import Ring
from ringbars.shapes import Shape, shape_of, some_shape
from tests.common import HUGE, NO_INTEGERS, ODD, Case, stranger
from tests.plain import long_three, slack
from tests.walking import all_shapes, do_fit, flat_ones, is_path, is_slide, some_bounds, unlike

SMALL = ([3, 4, 5], [1, 1, 2], [2, 1, 1, 1], [2, 2, 2, 1], [2, 1, 2, 1], [3, 1, 1, 1],
         [3, 2, 2, 1, 1], [2, 2, 1, 1, 1], [4, 4, 4, 1, 1], [4, 1, 1, 1, 1], [1, 1, 1, 1, 1, 1],
         [3, 1, 1, 3, 1, 3])


class PathsTest(Case):

    def setUp(self):
        self.ring, self.fan = Ring([2, 2, 1, 1, 1]), Cutting.fan(5, 0)
        self.four = Ring([4, 4, 4, 1, 1])
        self.one = shape_of(self.ring, self.fan, 1, [1, 1], [1, 1, 1])
        self.fold = Shape(self.fan, 1, [0, 1], [0, 0, 1])
        self.back = Shape(self.fan, 1, [1, 1], [-1, 1, 1])
        self.far = Shape(self.fan, 1, [4, 1], [1, 1, 1])

    def test_examples(self):
        ring, one, fold, back, far = self.ring, self.one, self.fold, self.back, self.far
        told = [shows_path(ring, one, back, Path([one, fold, back])),
                shows_path(ring, one, back, Path([one, back])),
                shape_on(ring, one, fold, 1, 2) == Shape(self.fan, 2, [1, 2], [1, 1, 1])]
        self.like(told, [True, False, True])
        self.assertEqual(path_between(self.four, far, far.mirrored()), Apart((0, 1, 2), (0, 1, 2)))
        self.like(path_within(ring, one, back, [((0, 2), 1, None)]).ranges, ((2, 2), (2, 2), (1, 3)))

    def test_all_twos(self):
        for lengths in SMALL:
            ring = Ring(lengths)
            for cutting in cuttings(len(lengths))[:4]:
                shapes = all_shapes(lengths, cutting, 25)
                flats = flat_ones(lengths, cutting)
                for one in shapes:
                    for other in shapes:
                        self.check_two(ring, one, other, flats)

    def check_two(self, ring, one, other, flats):
        answer = path_between(ring, one, other)
        held = [three for three in unlike(one, other) if three not in flats]
        self.assertEqual(bool(answer), not held)
        self.assertIs(shows_path(ring, one, other, answer), True)
        if held:
            self.assertIs(type(answer), Apart)
            self.like(answer.parts, (held[0], long_three(ring.lengths)))
        else:
            self.assertIs(type(answer), Path)
            self.assertTrue(is_path(ring.lengths, answer.shapes, one, other))
            self.assertIs(type(answer.shapes), tuple)

    def test_within_bounds(self):
        for lengths in SMALL:
            ring = Ring(lengths)
            cutting = cuttings(len(lengths))[-1]
            shapes = all_shapes(lengths, cutting, 15)
            for bounds in some_bounds(cutting.diagonals)[::2]:
                flats = flat_ones(lengths, cutting, bounds)
                for one in shapes[::2]:
                    for other in shapes[::3]:
                        self.check_within(ring, one, other, bounds, flats)

    def check_within(self, ring, one, other, bounds, flats):
        if not all(is_path(ring.lengths, [shape], shape, shape, bounds) for shape in (one, other)):
            self.raises(Misfit("bounds"), path_within, ring, one, other, bounds)
            return
        answer = path_within(ring, one, other, bounds)
        held = [three for three in unlike(one, other) if three not in flats]
        self.assertEqual(bool(answer), not held)
        self.assertIs(shows_within(ring, one, other, bounds, answer), True)
        if held:
            self.assertIs(type(answer), Kept)
            self.like(answer.triangle, held[0])
            self.like(answer.ranges, self.ranges_of(ring, one.cutting, bounds, held[0]))
        else:
            self.assertTrue(is_path(ring.lengths, answer.shapes, one, other, bounds))

    def ranges_of(self, ring, cutting, bounds, three):
        told = {pair: (low, high) for pair, low, high in bounded(ring, cutting, bounds).ranges}
        ends = [(three[0], three[1]), (three[1], three[2]), (three[0], three[2])]
        for pair in ends:
            bar = pair[0] if pair[1] - pair[0] == 1 else pair[1]
            told.setdefault(pair, (ring.lengths[bar],) * 2)
        return tuple(told[pair] for pair in ends)

    def test_edges(self):
        ring, one = self.ring, self.one
        self.assertEqual(path_between(ring, one, one), Path([one]))
        self.assertEqual(path_within(ring, one, one, []), Path([one]))
        three, cutting = Ring([3, 4, 5]), Cutting(3, [])
        left, right = Shape(cutting, 1, [], [1]), Shape(cutting, 1, [], [-1])
        self.assertEqual(path_between(three, left, right), Apart((0, 1, 2), (0, 1, 2)))
        self.assertEqual(path_within(three, left, right, []),
                         Kept((0, 1, 2), ((3, 3), (4, 4), (5, 5))))
        level = Shape(cutting, 1, [], [0])
        self.assertEqual(path_between(Ring([1, 1, 2]), level, level), Path([level]))
        # Bounds with low equal to high, and a scale above 1.
        half = Shape(self.fan, 2, [3, 3], [1, 1, 1])
        self.assertEqual(path_within(ring, half, half, [((0, 2), 1, 2)]), Path([half]))
        self.raises(Misfit("bounds"), path_within, ring, half, half, [((0, 2), 1, 1)])
        self.raises(Misfit("bounds"), path_within, ring, half, half, [((0, 2), 2, None)])
        self.assertEqual(path_within(ring, one, one, [((0, 2), 1, 1), ((0, 3), 1, 1)]), Path([one]))

    def test_shape_on(self):
        for lengths in SMALL:
            ring = Ring(lengths)
            shapes = all_shapes(lengths, cuttings(len(lengths))[0], 20)
            for one in shapes:
                for other in shapes:
                    if is_slide(one, other):
                        self.check_slide(ring, one, other)
                    else:
                        self.raises(Misfit("hands"), shape_on, ring, one, other, 1, 2)

    def check_slide(self, ring, one, other):
        self.assertEqual(shape_on(ring, one, other, 0, 7), one)
        self.assertEqual(shape_on(ring, one, other, 5, 5), other)
        for number, by in ((1, 3), (2, 4), (HUGE, HUGE + 1)):
            shape = shape_on(ring, one, other, number, by)
            self.assertTrue(do_fit(ring.lengths, shape))
            self.assertTrue(is_slide(one, shape) and is_slide(shape, other))
            for at, span in enumerate(shape.spans):
                right = (by - number) * one.spans[at] + number * other.spans[at]
                self.assertEqual(span * by, right * shape.scale)
            for at, three in enumerate(one.cutting.triangles):
                told = one.hands[at] or other.hands[at] or 1
                much = slack(ring.lengths, list(one.cutting.diagonals), shape.spans, three, shape.scale)
                self.assertEqual(shape.hands[at], told if much else 0)

    def test_open_between_two_flat_ends(self):
        ring, cutting = Ring([2, 2, 2, 2]), Cutting.fan(4, 0)
        one, other = Shape(cutting, 1, [0], [0, 0]), Shape(cutting, 1, [4], [0, 0])
        self.assertEqual(str(shape_on(ring, one, other, 1, 4)), "4 : 0 2 | 1 1 | 1 1")
        self.assertEqual(shape_on(ring, one, one, 1, 4), one)

    def test_scales(self):
        one = Shape(self.fan, 3, [4, 5], [1, 1, 1])
        other = Shape(self.fan, 2, [3, 3], [1, 1, 1])
        self.assertEqual(shape_on(self.ring, one, other, 1, 3),
                         Shape(self.fan, 18, [25, 29], [1, 1, 1]))
        self.assertEqual(path_between(self.ring, one, other), Path([one, other]))

    def test_turned_and_joined(self):
        one, fold, back = self.one, self.fold, self.back
        path = Path([one, fold, back])
        self.assertEqual(turned_path(path), Path([back, fold, one]))
        self.assertEqual(turned_path(Path([one])), Path([one]))
        self.assertEqual(joined_paths(path, turned_path(path)), Path([one, fold, back, fold, one]))
        self.assertEqual(joined_paths(Path([one]), path), path)
        self.assertEqual(joined_paths(Path([one]), Path([one])), Path([one]))
        self.raises(Misfit("shapes"), joined_paths, path, path)
        # Slides, and cuttings, are not looked at.
        other = Shape(Cutting(3, []), 1, [], [1])
        self.assertEqual(joined_paths(Path([one, back]), Path([back, other])), Path([one, back, other]))
        below = type("Path2", (Path,), {})
        for value in ODD + (Path([]), Path(None), Path([one, 1]), Path(one), Path([[one]]),
                            Paper("path", (one,)), below([one]), Kept([one], [one]), (one,), one,
                            stranger(path)):
            self.raises(BadPaper("path"), turned_path, value)
            self.raises(BadPaper("one"), joined_paths, value, value)
            self.raises(BadPaper("other"), joined_paths, path, value)

    def test_copied(self):
        shapes = [self.one, self.fold]
        path = Path(shapes)
        shapes.pop()
        self.assertEqual(path.shapes, (self.one, self.fold))
        bounds = [[[0, 2], 1, None]]
        kept = path_within(self.ring, self.one, self.back, bounds)
        bounds[0][1] = 0
        self.like(kept.ranges, ((2, 2), (2, 2), (1, 3)))

    def test_great_rings(self):
        for lengths in ([1000000, 999999, 999998, 5, 4, 3, 2, 1], [7] * 8):
            ring = Ring(lengths)
            for cutting in cuttings(8)[::9]:
                one = some_shape(ring, cutting)
                answer = path_between(ring, one, one.mirrored())
                self.assertIs(shows_path(ring, one, one.mirrored(), answer), True)
                bounds = [(pair, 0, HUGE) for pair in cutting.diagonals]
                answer = path_within(ring, one, one.mirrored(), bounds)
                self.assertIs(shows_within(ring, one, one.mirrored(), bounds, answer), True)

    def test_wrong(self):
        ring, one, fold, back = self.ring, self.one, self.fold, self.back
        calls = ((path_between, ()), (path_within, (None,)), (shape_on, (None, None)))
        for call, more in calls:
            for value in ODD:
                self.raises(BadRing("ring"), call, value, value, value, *more)
                self.raises(BadShape("one"), call, ring, value, value, *more)
                self.raises(BadShape("other"), call, ring, one, value, *more)
        for call, more in ((path_between, ()), (path_within, ([],)), (shape_on, (0, 1))):
            self.check_misfits(call, more)
        for value in NO_INTEGERS + (-1,):
            self.raises(BadNumber("number"), shape_on, ring, one, fold, value, value)
        for value in NO_INTEGERS + (-1, 0, 2):
            self.raises(BadNumber("by"), shape_on, ring, one, fold, 3, value)
        self.raises(BadNumber("by"), shape_on, ring, one, fold, 0, 0)
        self.raises(BadNumber("by"), shape_on, ring, one, Shape(Cutting(3, []), 1, [], [1]), 1, 0)
        self.raises(Misfit("hands"), shape_on, ring, one, back, 0, 1)

    def check_misfits(self, call, more):
        ring, one, fan = self.ring, self.one, self.fan
        other = Shape(Cutting.fan(5, 1), 1, [1, 1], [1, 1, 1])
        wrong = Shape(fan, 1, [1, 1], [0, 1, 1])
        three = Shape(Cutting(3, []), 1, [], [1])
        open_ring = Ring([9, 1, 1, 1, 1])
        self.raises(Misfit("bars"), call, Ring([3, 4, 5]), one, one, *more)
        self.raises(Misfit("bars"), call, ring, one, three, *more)
        self.raises(Misfit("bars"), call, ring, three, wrong, *more)
        self.raises(Misfit("bars"), call, open_ring, wrong, three, *more)
        self.raises(TooLong(0), call, open_ring, wrong, wrong, *more)
        self.raises(BadShape("one"), call, ring, wrong, wrong, *more)
        self.raises(BadShape("other"), call, ring, one, wrong, *more)
        self.raises(BadShape("one"), call, ring, wrong, other, *more)
        self.raises(BadShape("other"), call, ring, one, Shape(fan, 1, [9, 9], [1, 1, 1]), *more)
        self.raises(Misfit("cutting"), call, ring, some_shape(ring, fan),
                    some_shape(ring, Cutting.fan(5, 1)), *more)

    def test_wrong_bounds(self):
        ring, one = self.ring, self.one
        wrong = Shape(self.fan, 1, [1, 1], [0, 1, 1])
        other = some_shape(ring, Cutting.fan(5, 1))
        for value in ODD:
            if value not in ([], ()):
                self.raises(BadNumber("bounds"), path_within, ring, one, wrong, value)
                self.raises(NoDiagonal(value), path_within, ring, one, wrong, [(value, 1, 2)])
        self.raises(NoDiagonal((1, 3)), path_within, ring, one, other, [((1, 3), 1, 2)])
        self.raises(Twice([0, 2]), path_within, Ring([9, 1, 1, 1, 1]), one, other,
                    [((0, 2), 1, 2), ([0, 2], 1, 2)])
        self.raises(BadShape("other"), path_within, ring, one, None, 5)
        self.raises(Misfit("cutting"), path_within, ring, one, other, [((0, 2), 7, 7)])
        self.raises(BadShape("other"), path_within, ring, one, wrong, [((0, 2), 7, 7)])
        self.raises(Misfit("bounds"), path_within, ring, one, one, [((0, 2), 7, 7)])
        self.raises(Misfit("bounds"), path_within, ring, self.fold, one, [((0, 2), 1, None)])
        self.raises(Misfit("bounds"), path_within, ring, one, self.fold, [((0, 2), 1, None)])
        self.raises(Misfit("bounds"), path_within, ring, one, self.fold, [((0, 2), None, 0)])


if __name__ == "__main__":
    unittest.main()

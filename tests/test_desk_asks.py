"""ringbars.desk_asks: ask lines of a desk, held against the functions behind them and plain counts."""

import unittest
from itertools import combinations, permutations

from ringbars.answers import judged, some_ring
from ringbars.arcs import corner_range
from ringbars.desk_asks import answer_of
from ringbars.desk_lines import DEEDS
from ringbars.errors import BadDesk, BadNumber, BadRing, BadText, Impossible, Level, Misfit, NoBar, NoCorner, NoName
from ringbars.errors import Nothing, TooLong, TooMany, Twice
from ringbars.facts import Fact, Facts, never_points, points
from ringbars.holes import holes
from ringbars.joints import turns_round
from ringbars.lots import level_lots
from ringbars.rings import Ring
from ringbars.shelves import Shelf
from ringbars.sizes import size_by_lots
from ringbars.slack import slack
from tests.books import by_lengths, greatest, least_rows
from tests.common import EVERY, ODD, Case
from tests.plain import all_cells, arc, long_three, sort_of, subsets
from tests.test_answers import many_facts
from tests.test_desk_deeds import FACTS, shelf_of
from tests.test_desk_lines import FORMS, lines_of
from tests.webs import many_sums

MANY = EVERY + ([40, 40, 40, 10, 10], [3, 2, 2, 1, 2], [12, 12, 12, 1], [13, 12, 12, 1], [9, 1, 1], [4, 2, 2, 2, 1])


def words(values):
    """The values with blanks between."""
    return " ".join(map(str, values)) or "-"


class AsksTest(Case):

    def setUp(self):
        self.shelf = shelf_of([2, 2, 1, 1, 1], [3, 4, 5], many=3, facts=FACTS[:3])

    def test_examples(self):
        full = Shelf([("a", Ring([4, 4, 4, 1, 1])), ("b", Ring([3, 2, 2, 1, 1]))], 4, [never_points(4, (0, 1))])
        self.like([answer_of(full, line) for line in ("pieces a", "three a", "three b", "cells b", "sort b 0 1",
                                                      "same a b", "apart b 0 2", "walls a", "slack b 0")],
                  ["2", "0 1 2", "-", "22 48 24", "long", "unlike 1 2", "1 4", "3 5 11 13", "0 0"])
        self.like([answer_of(full, line) for line in ("round b", "point b 1 2", "against b 0 3", "size a", "whole a",
                                                      "least a", "set", "can", "judge " + str(points(4, (2, 3))))],
                  ["0 3 4", "yes", "yes", "4 1", "4", "3 3 3 1 1", "4", "yes", "surely"])

    def asks(self, lengths, right, line):
        """The answer to a line about a ring, which stands among others."""
        shelf = shelf_of([9, 1, 1, 1], lengths, [1, 1, 1])
        self.like(answer_of(shelf, line), right)

    def test_lots(self):
        for lengths in MANY:
            many = len(lengths)
            closes = 2 * max(lengths) <= sum(lengths)
            levels = [lot for lot in subsets(many) if sort_of(lengths, lot) == "level"]
            self.asks(lengths, words(lengths), "show b")
            self.asks(lengths, "yes" if closes else "no", "closes b")
            self.asks(lengths, "no" if levels else "yes", "clear b")
            self.asks(lengths, words(long_three(lengths) or ()), "three b")
            for lot in subsets(many)[1::1 if many < 6 else 5]:
                sort = sort_of(lengths, lot)
                self.asks(lengths, sort, "sort b " + words(lot[::-1]))
                self.asks(lengths, "yes" if closes and sort != "long" else "no", "point b " + words(lot))

    def test_spans(self):
        for lengths in MANY:
            ring, many = Ring(lengths), len(lengths)
            for one, other in permutations(range(many), 2):
                line = f"apart b {one} {other}"
                if ring.closes:
                    there = [lengths[bar] for bar in arc(many, one, other)]
                    back = [lengths[bar] for bar in arc(many, other, one)]
                    low = max(0, 2 * max(there) - sum(there), 2 * max(back) - sum(back))
                    self.asks(lengths, words((low, min(sum(there), sum(back)))), line)
                    self.asks(lengths, words(corner_range(ring, one, other)), line)
            if ring.closes:
                right = [corner for corner in range(many) if turns_round(ring, corner)]
                self.asks(lengths, words(right), "round b")
                self.asks(lengths, "1" if long_three(lengths) is None else "2", "pieces b")

    def test_against(self):
        for lengths in MANY:
            for one, other in permutations(range(len(lengths)), 2):
                rest = [length for bar, length in enumerate(lengths) if bar not in (one, other)]
                nets = [abs(lengths[one] - lengths[other])] + rest
                right = 2 * max(nets) <= sum(nets)
                self.asks(lengths, "yes" if right else "no", f"against b {one} {other}")

    def test_cells_and_holes(self):
        for lengths in MANY:
            ring = Ring(lengths)
            if ring.closes and ring.is_clear:
                if len(lengths) < 7:
                    cells = [len(all_cells(lengths, size)) for size in range(3, len(lengths) + 1)]
                    self.asks(lengths, words(cells), "cells b")
                self.asks(lengths, words(holes(ring)), "holes b")

    def test_growing(self):
        for lengths in MANY:
            sums = {sum(lengths[:-1]) - 2 * sum(lengths[bar] for bar in lot) for lot in subsets(len(lengths) - 1)}
            self.asks(lengths, words(sorted(wall for wall in sums if wall > 0)), "walls b")
            ring = Ring(lengths)
            if ring.is_clear:
                for bar in range(len(lengths)):
                    down, up = slack(ring, bar).parts[:2]
                    self.asks(lengths, words((down, "-" if up is None else up)), f"slack b {bar}")
        self.asks([9, 1, 1], "6 -", "slack b 0")

    def test_sizes_and_sums(self):
        for lengths in MANY:
            ring = Ring(lengths)
            if ring.closes and len(lengths) > 3:
                self.asks(lengths, words(size_by_lots(ring)), "size b")
            if ring.closes and max(lengths) < 13:
                self.asks(lengths, str(many_sums(lengths)), "whole b")

    def test_books(self):
        found = 0
        for lengths in MANY:
            shorts = by_lengths(lengths)
            if shorts is not None and len(lengths) < 7:
                found += 1
                text = f"{len(lengths)} : " + " / ".join(words(lot) for lot in greatest(shorts))
                self.asks(lengths, text, "book b")
                self.asks(lengths, words(least_rows(len(lengths), 19)[shorts][0]), "least b")
        self.assertGreater(found, 15)

    def test_same(self):
        for one, other in permutations(MANY, 2):
            if len(one) == len(other) and len(one) < 6:
                shelf = shelf_of(one, other)
                unlike = [lot for lot in subsets(len(one)) if sort_of(one, lot) != sort_of(other, lot)]
                self.like(answer_of(shelf, "same a b"), "unlike " + words(unlike[0]) if unlike else "same")
                self.like(answer_of(shelf, "same a a"), "same")

    def test_names(self):
        self.like(answer_of(Shelf(), "names"), "-")
        self.like(answer_of(self.shelf, "names"), "a b")
        self.like(answer_of(Shelf([("zz", Ring([1, 1, 1])), ("b", Ring([1, 1, 1]))]), "names"), "zz b")

    def test_facts(self):
        self.like([answer_of(Shelf(), "set"), answer_of(Shelf(many=5), "set")], ["-", "5"])
        for facts in many_facts():
            shelf = Shelf((), facts.many, facts.facts)
            self.like([answer_of(shelf, "set"), answer_of(shelf, "facts")], [str(facts.many), str(len(facts.facts))])
            self.like([answer_of(shelf, f"fact {at}") for at in range(len(facts.facts))],
                      [str(fact) for fact in facts.facts])
            self.like(answer_of(shelf, "can"), "yes" if some_ring(facts) else "no")
            for lot in combinations(range(facts.many), 2):
                fact = points(facts.many, lot)
                if some_ring(facts):
                    self.like(answer_of(shelf, f"judge {fact}"), judged(facts, fact).word)
                else:
                    self.raises(Impossible(some_ring(facts)), answer_of, shelf, f"judge {fact}")

    def test_errors_of_rings(self):
        shelf = shelf_of([2, 2, 1, 1, 2], [3, 4, 9], [1, 1, 1, 1, 1, 1, 1], [13, 12, 12, 2], [1, 1, 2], [3, 4, 5])
        level = Level(level_lots(shelf.ring("a"))[0])
        for line, error in (("sort a 5", NoBar(5)), ("sort a 0 9 0", NoBar(9)), ("sort a 0 1 1", Twice(1)),
                            ("same a b", Misfit("bars")), ("apart a 5 5", NoCorner(5)), ("apart a 0 7", NoCorner(7)),
                            ("apart a 2 2", Twice(2)), ("apart b 0 1", TooLong(2)), ("apart b 1 1", Twice(1)),
                            ("round b", TooLong(2)), ("pieces b", TooLong(2)), ("cells b", TooLong(2)),
                            ("holes b", TooLong(2)), ("cells a", level), ("holes a", level), ("point a 5", NoBar(5)),
                            ("point a 1 1", Twice(1)), ("against a 5 5", NoBar(5)), ("against a 0 6", NoBar(6)),
                            ("against a 1 1", Twice(1)), ("slack a 0", level), ("slack a 5", NoBar(5)),
                            ("size b", BadRing("bars")), ("size f", BadRing("bars")), ("whole b", TooLong(2)),
                            ("whole d", TooMany("length", 12)), ("book a", level), ("least a", level),
                            ("book c", TooMany("bars", 6)), ("least c", TooMany("bars", 6)), ("book e", Level((2,)))):
            self.raises(error, answer_of, shelf, line)
        wide = shelf_of([99, 1, 1, 1], [13, 13, 30, 1], [1] * 8)
        self.raises(TooLong(0), answer_of, wide, "size a")
        self.raises(TooLong(2), answer_of, wide, "whole b")
        self.raises(Level(level_lots(Ring([1] * 8))[0]), answer_of, wide, "book c")
        self.like(answer_of(wide, "slack a 0"), "95 -")

    def test_errors_of_facts(self):
        shelf, none = self.shelf, Shelf((), 3, [Fact([1, -1, -1], True)])
        self.raises(BadNumber("number"), answer_of, shelf, "fact 3")
        self.raises(BadNumber("number"), answer_of, Shelf(many=3), "fact 0")
        self.raises(Misfit("bars"), answer_of, shelf, "judge least 1 0 0 0")
        self.raises(Misfit("bars"), answer_of, none, "judge least 1 0 0 0")
        self.raises(Impossible(some_ring(Facts(3, none.facts))), answer_of, none, "judge least 1 0 0")
        self.like(answer_of(none, "can"), "no")

    def test_errors_in_order(self):
        bare = Shelf(self.shelf.rings)
        for line in ("facts", "fact 9", "fact 0", "can", "judge least 0 0 0", "judge above 1 1 1 1"):
            self.raises(Nothing(), answer_of, bare, line)
        for line, error in (("fact", BadText(0, 1)), ("can x", BadText(0, 1)), ("judge least 1", BadText(0, 3)),
                            ("show z", NoName("z")), ("show Z", BadText(0, 1)), ("sort z 9 9", NoName("z")),
                            ("sort z", BadText(0, 2)), ("same z y", NoName("z")), ("same a z", NoName("z")),
                            ("same z a", NoName("z")), ("same z", BadText(0, 2)), ("apart z 0 0", NoName("z")),
                            ("point z 0 0", NoName("z")), ("against z 0 0", NoName("z")), ("slack z 9", NoName("z"))):
            self.raises(error, answer_of, bare, line)
        for word in FORMS:
            if word not in DEEDS and FORMS[word] == "N":
                self.raises(NoName("z"), answer_of, bare, word + " z")
                self.raises(BadText(0, 2), answer_of, bare, word + " z 1")

    def test_deed_lines(self):
        for word in DEEDS:
            for tail in ("", " ", " a", " a 0 1", " x y z", "  ", " least 1 0 0", " 0"):
                self.raises(BadText(0, 0), answer_of, self.shelf, word + tail)
                self.raises(BadText(0, 0), answer_of, Shelf(), word + tail)

    def test_no_lines(self):
        for value in ODD:
            self.raises(BadDesk("shelf"), answer_of, value, value)
            self.raises(BadText(0, 0), answer_of, self.shelf, value)
        for line in ("", " ", " names", "Names", "showa", "desk"):
            self.raises(BadText(0, 0), answer_of, self.shelf, line)

    def test_all_asks_are_answered(self):
        shelf = shelf_of([5, 4, 3, 2, 1, 2, 2, 2], [3, 2, 2, 1, 1], [3, 2, 2, 1, 1], many=3, facts=FACTS[:4])
        for word in [word for word in FORMS if word not in DEEDS]:
            line = {"apart": "apart b 0 2", "against": "against b 0 2", "slack": "slack b 1", "same": "same b c",
                    "sort": "sort b 0 1", "point": "point b 0 1"}.get(word, lines_of(word)[0].replace(" a", " b"))
            self.assertIs(type(answer_of(shelf, line)), str)


if __name__ == "__main__":
    unittest.main()

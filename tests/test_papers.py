"""ringbars.papers: what all papers have in common."""

import unittest

from ringbars.answers import Either, Keeps, Never, NoRing, Surely
from ringbars.asking import Known, Look
from ringbars.bounds import Clash, Ranges
from ringbars.families import Steps
from ringbars.fields import InField, TooWide
from ringbars.flips import Flips
from ringbars.growing import Change
from ringbars.lengths import Lengths, Trade
from ringbars.lines import Most, Nets, NoSigns, Signs, TooGreat
from ringbars.papers import Denial, Paper, fixed, is_called
from ringbars.paths import Apart, Kept, Path
from ringbars.pieces import OnePiece, TwoPieces
from ringbars.ranks import Pierced, RimOf, Screen
from ringbars.rounds import Exchanges, Held
from ringbars.shapes import Flat, NeverFlat
from ringbars.sizes import Packed
from ringbars.slack import Ease, Passings, Slack
from ringbars.takenapart import Lies, LoopTooLong
from tests.common import HUGE, ODD, Case, stranger

# Each class, its word, the names of its parts, and whether it is a denial.
CLASSES = ((Ranges, "ranges", ("ranges",), False), (Clash, "clash", ("rows",), True),
           (Flat, "flat", ("shape",), False), (NeverFlat, "neverflat", ("ranges",), True),
           (Path, "path", ("shapes",), False), (Apart, "apart", ("triangle", "bars"), True),
           (Kept, "kept", ("triangle", "ranges"), True), (OnePiece, "onepiece", ("shapes",), False),
           (TwoPieces, "twopieces", ("triangle", "bars"), True),
           (Exchanges, "exchanges", ("rounds",), False), (Held, "held", ("bars",), True),
           (RimOf, "rimof", ("cells",), False), (Screen, "screen", ("cells",), True),
           (Pierced, "pierced", ("heaps", "screens"), False), (Nets, "nets", ("nets",), False),
           (TooGreat, "toogreat", ("lot", "net", "others"), True), (Signs, "signs", ("lineup",), False),
           (NoSigns, "nosigns", ("lots",), True), (Most, "most", ("lineup",), False),
           (Change, "change", ("ahead", "behind"), False),
           (Slack, "slack", ("down", "up", "low_lot", "high_lot"), False), (Ease, "ease", ("by", "lot"), False),
           (Passings, "passings", ("rows",), False), (InField, "infield", ("spare",), False),
           (TooWide, "toowide", ("triangle", "side"), True), (Packed, "packed", ("bodies",), False),
           (Flips, "flips", ("rows",), False), (Steps, "steps", ("lots",), False),
           (Lengths, "lengths", ("lengths",), False), (Trade, "trade", ("short", "long"), True),
           (Keeps, "keeps", ("lengths",), False), (Surely, "surely", ("weights",), False),
           (Either, "either", ("one", "other"), False), (NoRing, "noring", ("weights",), True),
           (Never, "never", ("weights",), True), (Look, "look", ("lot", "looks"), False),
           (Known, "known", ("answers",), True), (Lies, "lies", ("rows",), False),
           (LoopTooLong, "looptoolong", ("bar", "way"), True))


class PapersTest(Case):

    def test_examples(self):
        told = [fixed([1, [None, (2, [])], "a"]), bool(Paper("note", [1])), bool(Denial("note")),
                Paper("note", [1]) == Paper("note", (1,)), Paper("note", 1) == Denial("note", 1)]
        self.like(told, [(1, (None, (2, ())), "a"), True, False, True, False])

    def test_fixed_keeps_what_is_no_list(self):
        for value in ODD:
            if not isinstance(value, (list, tuple)):
                self.assertIs(fixed(value), value)
        table = {"a": [1]}
        self.assertIs(fixed([table])[0], table)
        self.assertEqual(table, {"a": [1]})

    def test_fixed_goes_all_the_way_in(self):
        deep, right = [], ()
        for _ in range(59):
            deep, right = [deep, (1, [2])], (right, (1, (2,)))
        self.like(fixed(deep), right)
        self.like(fixed([]), ())

    def test_attributes(self):
        paper = Paper("note", [1, [2]], None)
        self.like(paper.parts, ((1, (2,)), None))
        self.assertEqual(paper.word, "note")
        self.like(Denial("no").parts, ())
        self.like(Denial("no", [[]]).parts, (((),),))

    def test_equality(self):
        self.assertEqual(Paper("a", 1, [2]), Paper("a", 1, (2,)))
        self.assertEqual(Denial("a"), Denial("a"))
        self.assertEqual(Paper("a", True), Paper("a", 1))
        for other in (Paper("b", 1, [2]), Paper("a", 1), Paper("a", 1, [3]), Paper("a", [1, 2]),
                      Denial("a", 1, [2]), None, "a", ("a", (1, (2,))), HUGE, []):
            self.assertIs(Paper("a", 1, [2]) == other, False)
            self.assertIs(other == Paper("a", 1, [2]), False)
            self.assertIs(Paper("a", 1, [2]) != other, True)

    def test_strangers(self):
        for paper in (Paper("a", 1), Denial("a", 1), Held((0, 1, 2))):
            self.assertIs(paper == stranger(paper), False)

    def test_methods_stand_in_both_classes(self):
        for kind in (Paper, Denial):
            self.assertIn("__eq__", vars(kind))
            self.assertIn("__bool__", vars(kind))

    def test_all_classes(self):
        for kind, word, names, is_denial in CLASSES:
            self.assertTrue(issubclass(kind, Paper))
            self.assertIs(issubclass(kind, Denial), is_denial)
            self.assertEqual(kind.__name__.lower(), word)
            for value in ODD:
                values = [[value, [value]] for _ in names]
                paper = kind(*values)
                self.assertEqual(paper, kind(**dict(zip(names, values))))
                self.assertEqual(paper.word, word)
                self.assertIs(bool(paper), not is_denial)
                self.like(paper.parts, fixed(values))
                for name, part in zip(names, paper.parts):
                    self.assertIs(getattr(paper, name), part)

    def test_no_other_classes(self):
        below, rows = set(), [Paper]
        while rows:
            rows = [kind for one in rows for kind in one.__subclasses__() if kind.__module__.startswith("ringbars.")]
            below |= set(rows)
        self.assertEqual(below, {kind for kind, *_ in CLASSES} | {Denial})

    def test_unlike_classes_are_never_equal(self):
        for kind, word, names, is_denial in CLASSES:
            values = [1] * len(names)
            self.assertIs(kind(*values) == Paper(word, *values), False)
            self.assertIs(kind(*values) == Denial(word, *values), False)
            for other, _, more, _ in CLASSES:
                self.assertIs(kind(*values) == other(*[1] * len(more)), kind is other)

    def test_only_the_class_itself_makes_its_papers(self):
        below = type("Below", (Ranges,), {})
        self.assertIs(is_called(Ranges(()), "Ranges"), True)
        self.assertIs(is_called(below(()), "Ranges"), False)
        self.assertIs(below(()) == Ranges(()), False)

    def test_lists_are_copied(self):
        rows = [[1], [2]]
        paper = Ranges(rows)
        rows[0].append(5)
        rows.append(6)
        self.like(paper.ranges, ((1,), (2,)))
        self.like(paper.parts, (((1,), (2,)),))


if __name__ == "__main__":
    unittest.main()

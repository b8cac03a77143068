"""ringbars.desk: a desk that is told lines, and takes back."""

import unittest
from random import Random

from ringbars.desk import Desk
from ringbars.desk_asks import answer_of
from ringbars.desk_deeds import changed
from ringbars.desk_lines import ASKS
from ringbars.errors import BadLine, BadNumber, BadText, Impossible, NoBar, NoName, Nothing, RingError, TooLong
from ringbars.errors import Twice
from ringbars.rings import Ring
from ringbars.shelves import Shelf
from tests.common import ODD, Case, is_like

LINES = ("put g 2 1 1 1", "pieces g", "length g 1 2", "pieces g", "bars 4", "tell above 1 -1 -1 1")


def random_line(pick):
    """Some line: a deed or an ask, right or wrong."""
    name, other, bar, number = pick.choice("abcz"), pick.choice("abcz"), pick.randrange(6), pick.randrange(9)
    counts = " ".join(str(pick.randint(-3, 3)) for _ in range(pick.choice([3, 4, 4])))
    lengths = " ".join(str(pick.randint(1, 5)) for _ in range(pick.randint(2, 6)))
    rows = (f"put {name} {lengths}", f"put {name} {lengths}", f"length {name} {bar} {number}", f"begin {name} {bar}",
            f"backwards {name}", f"join {name} {bar}", f"cut {name} {bar} {number}", f"drop {name}", f"bars {number}",
            "bars 4", f"tell least {counts}", f"tell above {counts}", f"tell least {counts}", f"strike {bar}",
            f"strike {bar} {number}", "names", f"show {name}", f"sort {name} {bar}", f"closes {name}", f"clear {name}",
            f"same {name} {other}", f"apart {name} {bar} {number}", f"pieces {name}", f"three {name}", f"walls {name}",
            f"slack {name} {bar}", f"whole {name}", f"book {name}", f"least {name}", "set", "facts", f"fact {bar}",
            "can", f"judge least {counts}", "nothing", "", f"show {name} {bar}")
    return pick.choice(rows)


class Plain:
    """A desk that keeps its story alone, and does all of it again each time."""

    def __init__(self):
        self.story, self.back = [], []

    def shelf(self):
        shelf = Shelf()
        for line in self.story:
            shelf = changed(shelf, line)[0]
        return shelf

    def told(self, line):
        if isinstance(line, str) and line.split(" ")[0] in ASKS:
            return answer_of(self.shelf(), line)
        answer = changed(self.shelf(), line)[1]
        self.story, self.back = self.story + [line], []
        return answer

    def undo(self):
        line = self.story.pop()
        self.back.append(line)
        return line

    def redo(self):
        line = self.back.pop()
        self.story.append(line)
        return line


class DeskTest(Case):

    def setUp(self):
        self.desk = Desk()
        self.desk.told(*LINES)

    def test_examples(self):
        desk = Desk()
        self.like(desk.told(*LINES), ("1", "1", "2 2 1 1", "1", "4", "0"))
        self.fails(2, NoName("h"), desk.told, "cut g 0 1", "show g", "drop h")
        self.like([desk("show g"), desk.undo(), desk("set"), desk.redo(), len(desk), "g" in desk, desk.story[0]],
                  ["2 2 1 1", "tell above 1 -1 -1 1", "4", "tell above 1 -1 -1 1", 1, True, "put g 2 1 1 1"])

    def fails(self, index, right, call, *lines):
        """The call raises a BadLine of this index, with an error of just this class and these fields."""
        with self.assertRaises(RingError) as caught:
            call(*lines)
        error = caught.exception
        self.assertIs(type(error), BadLine)
        self.like([list(vars(error)), error.line], [["line", "error"], index])
        self.assertIs(type(error.error), type(right))
        self.assertTrue(is_like(vars(error.error), vars(right)), vars(error.error))

    def all_of(self, desk):
        """All that can be seen of a desk: its shelf, its story, and what can be done again."""
        twin = desk.twin()
        again = []
        while True:
            try:
                again.append(twin.redo())
            except Nothing:
                return (desk.shelf.rings, desk.shelf.many, desk.shelf.facts, desk.story, again)

    def test_methods_stand_in_the_class(self):
        for name in ("__init__", "__eq__", "__len__", "__contains__", "__call__", "told", "tried", "undo", "redo", "twin"):
            self.assertIn(name, vars(Desk))

    def test_new(self):
        desk = Desk()
        self.assertEqual(desk.shelf, Shelf())
        self.like([desk.story, len(desk), "a" in desk, desk("names"), desk("set"), desk.told()], [(), 0, False, "-", "-", ()])
        for call in (desk.undo, desk.redo):
            self.raises(Nothing(), call)

    def test_as_a_plain_desk(self):
        for number in range(60):
            pick, desk, plain = Random(number), Desk(), Plain()
            for _ in range(60):
                self.one_step(pick, desk, plain)
                self.assertEqual(desk.shelf, plain.shelf())
                self.like(desk.story, tuple(plain.story))
                self.assertEqual(len(desk), len(plain.shelf().facts))
                self.assertEqual(["a" in desk, "b" in desk], ["a" in plain.shelf().names, "b" in plain.shelf().names])
            self.like(self.all_of(desk)[-1], plain.back[::-1])

    def one_step(self, pick, desk, plain):
        """One line told, or several, one taken back, or done again, of both desks."""
        kind = pick.randrange(12)
        if kind == 0:
            (self.like(desk.undo(), plain.undo()) if plain.story else self.raises(Nothing(), desk.undo))
        elif kind == 1:
            (self.like(desk.redo(), plain.redo()) if plain.back else self.raises(Nothing(), desk.redo))
        elif kind < 4:
            self.several(pick, desk, plain, tries=kind == 2)
        else:
            line = random_line(pick)
            try:
                answer = plain.told(line)
            except RingError as error:
                self.raises(error, desk, line)
            else:
                self.like(desk(line), answer)

    def several(self, pick, desk, plain, tries):
        """Several lines told, or tried, at once."""
        lines = [random_line(pick) for _ in range(pick.randint(1, 4))]
        story, back, answers = list(plain.story), list(plain.back), []
        call = desk.tried if tries else desk.told
        for at, line in enumerate(lines):
            try:
                answers.append(plain.told(line))
            except RingError as error:
                plain.story, plain.back = story, back
                self.fails(at, error, call, *lines)
                return
        self.like(call(*lines), tuple(answers))
        if tries:
            plain.story, plain.back = story, back

    def test_refused_lines_change_nothing(self):
        desk = self.desk
        desk.undo()
        before = self.all_of(desk)
        for lines, index, error in ((("drop g", "drop g"), 1, NoName("g")), (("drop h",), 0, NoName("h")),
                                    (("put h 1 1 1", "names", None), 2, BadText(0, 0)), ((7,), 0, BadText(0, 0)),
                                    (("bars 3", "bars 7"), 1, BadNumber("many")), (("put g 1 1 1",), 0, Twice("g")),
                                    (("length g 9 1", "drop h"), 0, NoBar(9)), (("put x 9 1 1", "round x"), 1, TooLong(0)),
                                    (("names", "names", "names x"), 2, BadText(0, 1)), (((),), 0, BadText(0, 0))):
            for call in (desk.told, desk.tried):
                self.fails(index, error, call, *lines)
                self.assertEqual(self.all_of(desk), before)
            if index == 0:
                self.raises(error, desk, lines[0])
                self.assertEqual(self.all_of(desk), before)
        self.assertEqual(desk.redo(), LINES[-1])

    def test_errors_with_papers(self):
        desk = self.desk
        desk("tell least 1 -1 -1 -1")
        desk("tell above -1 1 1 -1")
        with self.assertRaises(Impossible) as caught:
            desk("judge least 1 0 0 0")
        with self.assertRaises(BadLine) as other:
            desk.told("can", "judge least 1 0 0 0")
        self.assertEqual(other.exception.line, 1)
        self.assertIs(type(other.exception.error), Impossible)
        self.assertEqual(other.exception.error.paper, caught.exception.paper)

    def test_undo_and_redo(self):
        desk = self.desk
        deeds = [line for line in LINES if line.split(" ")[0] not in ASKS]
        self.like(desk.story, tuple(deeds))
        shelves = [Shelf()]
        for line in deeds:
            shelves.append(changed(shelves[-1], line)[0])
        for at in range(len(deeds), 0, -1):
            self.assertEqual(desk.shelf, shelves[at])
            self.assertEqual(desk.undo(), deeds[at - 1])
            self.like(desk.story, tuple(deeds[:at - 1]))
        self.raises(Nothing(), desk.undo)
        self.assertEqual(desk.shelf, Shelf())
        for at, line in enumerate(deeds):
            self.assertEqual(desk.redo(), line)
            self.assertEqual(desk.shelf, shelves[at + 1])
        self.raises(Nothing(), desk.redo)

    def test_what_ends_doing_again(self):
        for call, left in (((lambda desk: desk("names")), True), ((lambda desk: desk.told("set", "names")), True),
                           ((lambda desk: desk.told()), True), ((lambda desk: desk.tried("drop g")), True),
                           ((lambda desk: desk.twin()("drop g")), True), ((lambda desk: desk("bars 4")), False),
                           ((lambda desk: desk.told("names", "begin g 0")), False)):
            desk = self.desk.twin()
            desk.undo()
            desk.undo()
            call(desk)
            if left:
                self.like([desk.redo(), desk.redo()], list(LINES[-2:]))
                self.assertEqual(desk, self.desk)
            else:
                self.raises(Nothing(), desk.redo)
        desk = self.desk
        desk.undo()
        desk.undo()
        self.assertEqual(desk.redo(), "bars 4")
        # A line done again is no new deed: the other one can still be done again.
        self.assertEqual(desk.redo(), LINES[-1])
        desk.undo()
        desk("tell least 0 0 0 0")
        self.raises(Nothing(), desk.redo)
        self.like(desk.undo(), "tell least 0 0 0 0")

    def test_tried(self):
        desk = self.desk
        before = self.all_of(desk)
        self.like(desk.tried("drop g", "names", "put h 1 1 1", "names"), ("0", "-", "1", "h"))
        self.like(desk.tried(), ())
        self.assertEqual(self.all_of(desk), before)

    def test_twins(self):
        desk = self.desk
        desk.undo()
        twin = desk.twin()
        self.assertIs(type(twin), Desk)
        self.assertIsNot(twin, desk)
        self.assertEqual(self.all_of(twin), self.all_of(desk))
        before = self.all_of(desk)
        self.assertEqual(twin.redo(), LINES[-1])
        twin("put h 1 1 1")
        self.assertEqual(self.all_of(desk), before)
        self.like(desk.told("drop g"), ("0",))
        self.like([twin("names"), desk("names"), twin.undo(), desk.undo(), desk("names")],
                  ["g h", "-", "put h 1 1 1", "drop g", "g"])

    def test_equality(self):
        one, other = Desk(), Desk()
        one.told("put a 1 1 1", "put b 2 2 2", "drop a")
        other("put b 2 2 2")
        self.assertEqual(one, other)
        other.undo()
        self.assertIs(one == other, False)
        other.told("put b 2 2 2", "bars 3")
        self.assertIs(one == other, False)
        for value in ODD + (one.shelf, one.story):
            self.assertIs(one == value, False)
            self.assertIs(value == one, False)

    def test_names_and_number_of_facts(self):
        desk = self.desk
        for value in ODD + ("g ", "G", ["g"], Ring([1, 1, 1])):
            self.assertIs(value in desk, False)
        self.assertIs("g" in desk, True)
        self.assertEqual(len(desk), 1)
        desk.told("tell least 0 0 0 0", "tell least 0 0 0 0")
        self.assertEqual(len(desk), 3)
        desk("bars 4")
        self.assertEqual(len(desk), 0)
        desk.undo()
        self.assertEqual(len(desk), 3)

    def test_struck_facts_leave_the_answers(self):
        desk = Desk()
        desk.told("bars 4", "tell least 1 -1 -1 -1", "tell above -1 1 0 0", "tell least 0 1 -1 0")
        self.like([desk("can"), desk("strike 1"), desk("can"), desk("facts"), desk("fact 1")],
                  ["no", "2", "yes", "2", "least 0 1 -1 0"])
        other = Desk()
        other.told("bars 4", "tell least 1 -1 -1 -1", "tell least 0 1 -1 0")
        self.assertEqual(desk, other)
        for fact in ("least 0 1 0 -1", "above 1 -1 0 0", "least -1 1 1 1"):
            self.like(desk("judge " + fact), other("judge " + fact))

    def test_long_story(self):
        desk = Desk()
        desk("put a 1 1 1 1")
        for at in range(2000):
            desk(f"length a {at % 4} {1 + at}")
        self.assertEqual(desk("show a"), "1997 1998 1999 2000")
        for _ in range(2000):
            desk.undo()
        self.assertEqual([desk("show a"), len(desk.story)], ["1 1 1 1", 1])
        for _ in range(2000):
            desk.redo()
        self.assertEqual(desk("show a"), "1997 1998 1999 2000")


if __name__ == "__main__":
    unittest.main()

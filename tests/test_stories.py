"""ringbars.stories: stories of desks played back, compared, and put together."""

import unittest
from random import Random

from ringbars.desk import Desk
from ringbars.desk_deeds import changed
from ringbars.desk_lines import ASKS
from ringbars.errors import BadDesk, BadLine, BadNumber, BadText, NoName, Nothing, RingError, Twice
from ringbars.shelves import Shelf
from ringbars.stories import merged, parting, replay
from tests.common import ODD, Case, is_like
from tests.test_desk import LINES, random_line


def random_desk(number, size=25):
    """A desk that was told some lines, some of them taken back."""
    pick, desk = Random(number), Desk()
    for _ in range(size):
        try:
            if pick.randrange(8) == 0:
                desk.undo()
            else:
                desk(random_line(pick))
        except RingError:
            pass
    return desk


class StoriesTest(Case):

    def setUp(self):
        self.desk = Desk()
        self.desk.told(*LINES)

    def test_examples(self):
        desk = self.desk
        fork = desk.twin()
        self.like([fork == desk, fork("drop g"), desk("length g 0 5"), parting(desk, fork), merged(desk, fork)[1],
                   replay(fork.story) == fork], [True, "0", "5 2 1 1", 4, (), True])

    def fails(self, index, right, lines):
        """Playing back raises a BadLine of this index, with an error of just this class and these fields."""
        with self.assertRaises(RingError) as caught:
            replay(lines)
        error = caught.exception
        self.assertIs(type(error), BadLine)
        self.like(error.line, index)
        self.assertIs(type(error.error), type(right))
        self.assertTrue(is_like(vars(error.error), vars(right)), vars(error.error))

    def test_replay(self):
        for number in range(40):
            desk = random_desk(number)
            for lines in (desk.story, list(desk.story)):
                told = replay(lines)
                self.assertIs(type(told), Desk)
                self.assertEqual(told, desk)
                self.like(told.story, desk.story)
                self.raises(Nothing(), told.redo)
            while desk.story:
                self.assertEqual(told.undo(), desk.undo())
                self.assertEqual(told, desk)
        self.assertEqual(replay([]).shelf, Shelf())
        self.assertEqual(replay(()).story, ())

    def test_replay_of_wrong_lines(self):
        for lines, index, error in ((["drop a"], 0, NoName("a")), (["put a 1 1 1", "put a 1 1 1"], 1, Twice("a")),
                                    (["put a 1 1 1", "names"], 1, BadText(0, 0)), (["names x"], 0, BadText(0, 0)),
                                    (["bars 3", "fact"], 1, BadText(0, 0)), (["bars 9", "names"], 0, BadNumber("many")),
                                    (["put a 1 1"], 0, BadText(0, 4)), ([""], 0, BadText(0, 0)), (["can "], 0, BadText(0, 0)),
                                    (["bars 3", "tell least 1 0 0", "strike 0", "strike 0"], 3, BadNumber("number"))):
            self.fails(index, error, lines)
            self.fails(index, error, tuple(lines))
        for word in ASKS:
            for tail in ("", " a", " 0 1 2", " "):
                self.fails(1, BadText(0, 0), ["bars 4", word + tail])

    def test_no_lines(self):
        for value in ODD + (["bars 3", None], ["drop a", 7], [["bars 3"]], "bars 3", {"bars 3": 1}, [b"bars 3"]):
            if value not in ([], (), ["a"]):
                self.raises(BadDesk("lines"), replay, value)

    def test_parting(self):
        for number in range(60):
            one, other = random_desk(number, 12), random_desk(number, 12)
            pick = Random(number)
            for desk in (one, other):
                for _ in range(pick.randrange(4)):
                    if desk.story:
                        desk.undo()
                if pick.random() < 0.6:
                    desk("put " + pick.choice("xy") + " 1 1 1")
            alike = 0
            for first, second in zip(one.story, other.story):
                if first != second:
                    break
                alike += 1
            self.like([parting(one, other), parting(other, one), parting(one, one)], [alike, alike, len(one.story)])
        self.assertEqual(parting(Desk(), self.desk), 0)

    def test_merged(self):
        found = 0
        for number in range(60):
            one = random_desk(number, 8)
            other = one.twin()
            pick = Random(number + 1)
            for desk in (one, other):
                for _ in range(pick.randrange(3)):
                    if desk.story:
                        desk.undo()
                for _ in range(50):
                    try:
                        desk(random_line(pick))
                    except RingError:
                        pass
            self.check_merged(one, other)
            found += len(merged(one, other)[1]) > 0
        self.assertGreater(found, 20)

    def check_merged(self, one, other):
        """The other lines of the other one are done one by one, but for those that are refused."""
        before = one.story, other.story, one.shelf, other.shelf
        shelf, story, refused = one.shelf, list(one.story), []
        for at in range(parting(one, other), len(other.story)):
            try:
                shelf = changed(shelf, other.story[at])[0]
                story.append(other.story[at])
            except RingError:
                refused.append(at)
        told = merged(one, other)
        self.assertEqual([type(told), len(told), type(told[0])], [tuple, 2, Desk])
        self.like([told[0].story, told[1]], [tuple(story), tuple(refused)])
        self.assertEqual(told[0].shelf, shelf)
        self.raises(Nothing(), told[0].redo)
        self.assertEqual((one.story, other.story, one.shelf, other.shelf), before)

    def test_refused_lines(self):
        desk = self.desk
        fork = desk.twin()
        desk.told("drop g", "put h 1 1 1")
        fork.told("length g 0 3", "put h 2 2 2", "put i 3 3 3", "strike 0", "tell least 0 0 0 1")
        told, refused = merged(desk, fork)
        self.like([refused, told("names"), told("show h"), told("facts")], [(4, 5), "h i", "1 1 1", "1"])
        self.like(told.story, desk.story + ("put i 3 3 3", "strike 0", "tell least 0 0 0 1"))
        self.like(merged(fork, desk)[1], (5,))
        self.like(merged(desk, desk)[1], ())
        self.like(merged(Desk(), desk)[0].story, desk.story)
        self.like(merged(desk, Desk())[0].story, desk.story)

    def test_merged_is_new(self):
        desk = self.desk
        told = merged(desk, desk)[0]
        told("drop g")
        self.assertIn("g", desk)
        self.assertNotIn("g", told)

    def test_wrong(self):
        for call in (parting, merged):
            for value in ODD + (Shelf(), ("put a 1 1 1",)):
                self.raises(BadDesk("one"), call, value, value)
                self.raises(BadDesk("other"), call, self.desk, value)


if __name__ == "__main__":
    unittest.main()

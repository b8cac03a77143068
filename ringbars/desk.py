"""A desk that keeps rings and facts, and answers line by line [18]."""

from ringbars.checks import is_name
from ringbars.desk_asks import answer_of
from ringbars.desk_deeds import changed
from ringbars.desk_lines import ASKS, first_word
from ringbars.errors import BadDesk, BadLine, Nothing, RingError
from ringbars.shelves import Shelf


class Desk:
    """What is kept now, and the deed lines that led to it."""

    def __init__(self):
        self.shelf = Shelf()
        self.story = ()
        # The shelf ahead of each line of the story, and what was taken back, the last one last.
        self.shelves = ()
        self.back = ()

    def __eq__(self, other):
        return isinstance(other, Desk) and self.shelf == other.shelf

    def __len__(self):
        return len(self.shelf.facts)

    def __contains__(self, value):
        return is_name(value) and value in self.shelf.names

    def __call__(self, line):
        if first_word(line) in ASKS:
            return answer_of(self.shelf, line)
        return do_deed(self, line)

    def told(self, *lines):
        """The answers to some lines; if one raises an error, all is as before."""
        other = self.twin()
        answers = answers_to(other, lines)
        become(self, other)
        return answers

    def tried(self, *lines):
        """The answers that these lines would have; all stays as before."""
        return answers_to(self.twin(), lines)

    def undo(self):
        """Take back the last line of the story, and return it."""
        if len(self.story) == 0:
            raise Nothing()
        line = self.story[-1]
        self.back = self.back + ((line, self.shelf),)
        self.shelf = self.shelves[-1]
        self.story = self.story[:-1]
        self.shelves = self.shelves[:-1]
        return line

    def redo(self):
        """Do again the line that was taken back last, and return it."""
        if len(self.back) == 0:
            raise Nothing()
        line, shelf = self.back[-1]
        keep(self, line, shelf)
        self.back = self.back[:-1]
        return line

    def twin(self):
        """A desk that is in all as this one."""
        other = Desk()
        become(other, self)
        return other


def do_deed(desk, line):
    """Do a deed line on a desk, and return the answer; then nothing can be done again."""
    shelf, answer = changed(desk.shelf, line)
    keep(desk, line, shelf)
    desk.back = ()
    return answer


def keep(desk, line, shelf):
    """Put a line behind the story of a desk, with the shelf behind it."""
    desk.story = desk.story + (line,)
    desk.shelves = desk.shelves + (desk.shelf,)
    desk.shelf = shelf


def become(one, other):
    """Make one desk in all as another one."""
    one.shelf = other.shelf
    one.story = other.story
    one.shelves = other.shelves
    one.back = other.back


def answers_to(desk, lines):
    """The answers of a desk to some lines, one behind another."""
    answers = []
    for at, line in enumerate(lines):
        try:
            answers.append(desk(line))
        except RingError as error:
            raise BadLine(at, error)
    return tuple(answers)


def want_desk(value, part):
    """Raise BadDesk for what is no desk."""
    if not isinstance(value, Desk):
        raise BadDesk(part)

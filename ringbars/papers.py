"""Papers: answers together with what shows them [3]."""


def fixed(value):
    """The value with each list in it as a tuple, all the way in."""
    if isinstance(value, (list, tuple)):
        return tuple([fixed(one) for one in value])
    return value


class Paper:
    """An answer: a word, and the parts that show it."""

    def __init__(self, word, *parts):
        self.word = word
        self.parts = fixed(parts)

    def __eq__(self, other):
        return isinstance(other, Paper) and are_equal(self, other)

    def __bool__(self):
        return True


class Denial(Paper):
    """A paper that says no."""

    def __eq__(self, other):
        return isinstance(other, Paper) and are_equal(self, other)

    def __bool__(self):
        return False


def are_equal(one, other):
    """Whether two papers are of one class, with equal words and parts."""
    if one.__class__.__name__ != other.__class__.__name__:
        return False
    return one.word == other.word and one.parts == other.parts


def is_called(value, name):
    """Whether a value was made by calling the class of this name.

    isinstance alone would let papers of classes below that one pass, too.
    """
    return value.__class__.__name__ == name

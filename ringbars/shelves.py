"""Shelves: what a desk keeps [18]."""

from ringbars.checks import first_twice, is_list, is_name
from ringbars.errors import BadDesk, BadFact, NoName, Nothing, Twice
from ringbars.facts import Facts
from ringbars.rings import Ring

# The first words of the lines that speak of the bars that are set, or of the facts.
OF_FACTS = ("tell", "strike", "facts", "fact", "can", "judge")


class Shelf:
    """Rings under their names, a number of bars, and facts about so many bars."""

    def __init__(self, rings=(), many=None, facts=()):
        if not is_list(rings) or not all([is_named(row) for row in rings]):
            raise BadDesk("rings")
        twice = first_twice([row[0] for row in rings])
        if twice is not None:
            raise Twice(twice)
        self.rings = tuple([tuple(row) for row in rings])
        self.many = many
        self.facts = facts_kept(many, facts)
        self.names = tuple([name for name, ring in self.rings])

    def __eq__(self, other):
        if not isinstance(other, Shelf):
            return False
        return self.rings == other.rings and self.many == other.many and self.facts == other.facts

    def ring(self, name):
        """The ring that is kept under a name."""
        if not is_name(name) or name not in self.names:
            raise NoName(name)
        return self.rings[self.names.index(name)][1]


def is_named(value):
    """Whether any value is a pair of a name and a ring."""
    if not is_list(value) or len(value) != 2:
        return False
    return is_name(value[0]) and isinstance(value[1], Ring)


def facts_kept(many, facts):
    """The facts about so many bars, a tuple; raise an error for what is no number of bars, or no facts."""
    if many is not None:
        return Facts(many, facts).facts
    if not is_list(facts) or len(facts) > 0:
        raise BadFact("facts")
    return ()


def want_shelf(value, part):
    """Raise BadDesk for what is no shelf."""
    if not isinstance(value, Shelf):
        raise BadDesk(part)


def want_there(shelf, told):
    """Raise an error for a line that was read if it speaks of what is not there."""
    word = told[0]
    if word in OF_FACTS and shelf.many is None:
        raise Nothing()
    # What is put has a new name.
    names = [value for value in told[1:] if isinstance(value, str) and word != "put"]
    for name in names:
        shelf.ring(name)

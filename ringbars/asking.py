"""Which facts tell all, and at which lots to look [16]."""

from ringbars.answers import want_possible
from ringbars.barring import facts_to_keep, kept_or_barred
from ringbars.checks import first_twice
from ringbars.errors import BadLot, TooMany, Twice
from ringbars.facts import Facts, never_points, points, want_facts
from ringbars.lots import lots_of
from ringbars.papers import Denial, Paper
from ringbars.params import want_lots

MOST_LOTS = 5


class Look(Paper):
    """A lot to look at first, and how many looks are always enough."""

    def __init__(self, lot, looks):
        super().__init__("look", lot, looks)
        self.lot = self.parts[0]
        self.looks = self.parts[1]


class Known(Denial):
    """The only row of answers that is left."""

    def __init__(self, answers):
        super().__init__("known", answers)
        self.answers = self.parts[0]


def fewest_facts(facts):
    """The numbers of the fewest facts that just the same rows of lengths keep."""
    want_facts(facts, "facts")
    if len(facts.facts) == 0:
        return ()
    lots = lots_of(len(facts.facts))
    at = 0
    # All facts together do: so the search ends.
    while not tell_all(facts, lots[at]):
        at += 1
    return lots[at]


def answers_left(facts, lots):
    """All rows of answers that rows of lengths give, ascending."""
    told = want_asked(facts, lots)
    want_possible(facts)
    return rows_left(facts, told)


def best_look(facts, lots):
    """The Look at the first lot with which the fewest looks are enough, or the Known."""
    told = want_asked(facts, lots)
    want_possible(facts)
    rows = rows_left(facts, told)
    if len(rows) == 1:
        return Known(rows[0])
    least = looks_needed(rows)
    first = [lot for at, lot in enumerate(told) if looks_from(rows, at) == least][0]
    return Look(first, least)


def tell_all(facts, lot):
    """Whether just the same rows of lengths keep the facts with these numbers alone."""
    some = Facts(facts.many, [facts.facts[number] for number in lot])
    others = [fact for number, fact in enumerate(facts.facts) if number not in lot]
    return all([not can_keep(some, (fact.contrary(),)) for fact in others])


def can_keep(facts, more):
    """Whether some row of lengths keeps facts, and some more."""
    return kept_or_barred(facts_to_keep(facts, more))[0] is not None


def rows_left(facts, lots):
    """All rows of answers about ascending lots, ascending; none if no row keeps the facts."""
    asked = [(never_points(facts.many, lot), points(facts.many, lot)) for lot in lots]
    rows = [()]
    for pair in asked:
        longer = [row + (answer,) for row in rows for answer in (0, 1)]
        rows = [row for row in longer if can_keep(facts, [asked[at][answer] for at, answer in enumerate(row)])]
    return tuple(rows)


def looks_needed(rows):
    """The least number of looks that are always enough for rows of answers."""
    if len(rows) == 1:
        return 0
    return min([looks for looks in [looks_from(rows, at) for at in range(len(rows[0]))] if looks is not None])


def looks_from(rows, at):
    """How many looks are enough with the first one at this lot, None if it tells nothing."""
    parts = [[row for row in rows if row[at] == answer] for answer in (0, 1)]
    if parts[0] == [] or parts[1] == []:
        return None
    return 1 + max(looks_needed(parts[0]), looks_needed(parts[1]))


def want_asked(facts, lots):
    """The lots, each one ascending; raise the errors of facts, and of lots to look at."""
    want_facts(facts, "facts")
    told = want_lots(lots, facts.many, "lots")
    if told == []:
        raise BadLot("lots")
    twice = first_twice(told)
    if twice is not None:
        raise Twice(twice)
    if len(told) > MOST_LOTS:
        raise TooMany("lots", MOST_LOTS)
    return told

"""Facts about the lengths of bars that nobody measured [16]."""

from ringbars.arcs import arc_bars
from ringbars.checks import are_positive, is_list, is_within
from ringbars.errors import BadFact, BadLot, BadRing, BadText, Misfit, TooMany, Twice
from ringbars.params import want_as_many, want_bar, want_lot, want_number
from ringbars.texts import item_at, items_of, number_at

LEAST_BARS = 3
MOST_BARS = 6
MOST_COUNT = 3
MOST_FACTS = 6


class Fact:
    """A sum of lengths, each times its count, that is 0 or more, or more than 0."""

    def __init__(self, counts, is_above=False):
        if not are_counts(counts):
            raise BadFact("counts")
        if not isinstance(is_above, bool):
            raise BadFact("is_above")
        self.counts = tuple(counts)
        self.is_above = is_above

    def __eq__(self, other):
        if not isinstance(other, Fact):
            return False
        return self.counts == other.counts and self.is_above == other.is_above

    def __str__(self):
        return " ".join(fact_items(self))

    def contrary(self):
        """The fact that is kept just where this one is not."""
        return Fact([-count for count in self.counts], not self.is_above)

    def total(self, lengths):
        """The sum of the lengths, each times its count."""
        want_lengths(lengths, len(self.counts))
        return sum_by(self.counts, lengths)

    def keeps(self, lengths):
        """Whether a row of lengths keeps the fact."""
        want_lengths(lengths, len(self.counts))
        return is_kept(self, lengths)

    @staticmethod
    def read(text):
        """The fact whose text this is."""
        return read_fact(items_of(text), 0)


class Facts:
    """Some facts about a ring of so many bars that closes."""

    def __init__(self, many, facts=()):
        want_number(many, LEAST_BARS, MOST_BARS, "many")
        if not is_list(facts) or not all([isinstance(fact, Fact) for fact in facts]):
            raise BadFact("facts")
        for fact in facts:
            want_as_many(len(fact.counts), many)
        if len(facts) > MOST_FACTS:
            raise TooMany("facts", MOST_FACTS)
        self.many = many
        self.facts = tuple(facts)

    def __eq__(self, other):
        return isinstance(other, Facts) and self.many == other.many and self.facts == other.facts

    def keeps(self, lengths):
        """Whether a row of lengths closes and keeps all facts."""
        want_lengths(lengths, self.many)
        return are_kept(self, lengths)

    def with_fact(self, fact):
        """The facts with one more behind them."""
        want_fact(fact, "fact")
        return Facts(self.many, self.facts + (fact,))


def points(many, lot):
    """The fact that the bars of a lot can all point one way."""
    want_few_bars(many)
    bars = want_lot(lot, many, "lot")
    return fact_of(many, [bar for bar in range(many) if bar not in bars], bars)


def never_points(many, lot):
    """The fact that the bars of a lot can never all point one way."""
    return points(many, lot).contrary()


def no_shorter(many, one, other):
    """The fact that bar one is no shorter than bar other."""
    want_few_bars(many)
    want_bar(one, many)
    want_bar(other, many)
    if one == other:
        raise Twice(one)
    return fact_of(many, (one,), (other,))


def arc_no_longer(many, one, other):
    """The fact that one arc, told by a pair of corners, is no longer than another one."""
    want_few_bars(many)
    want_pair(one, "one")
    want_pair(other, "other")
    less = arc_bars(many, one[0], one[1])
    return fact_of(many, arc_bars(many, other[0], other[1]), less)


def fact_of(many, more, less):
    """The fact that some bars are together as long as others, or longer."""
    return Fact([(1 if bar in more else 0) - (1 if bar in less else 0) for bar in range(many)])


def are_counts(value):
    """Whether any value is a list of counts for so many bars as facts can have."""
    if not is_list(value) or not LEAST_BARS <= len(value) <= MOST_BARS:
        return False
    return all([is_within(count, -MOST_COUNT, MOST_COUNT) for count in value])


def sum_by(counts, lengths):
    """The sum of lengths, each times its count."""
    return sum([count * lengths[bar] for bar, count in enumerate(counts)])


def is_kept(fact, lengths):
    """Whether right lengths keep a fact."""
    least = 1 if fact.is_above else 0
    return sum_by(fact.counts, lengths) >= least


def are_kept(facts, lengths):
    """Whether right lengths close and keep all facts."""
    if 2 * max(lengths) > sum(lengths):
        return False
    return all([is_kept(fact, lengths) for fact in facts.facts])


def fact_items(fact):
    """The items of the text of a fact."""
    return ["above" if fact.is_above else "least"] + [str(count) for count in fact.counts]


def read_fact(items, at):
    """The fact whose text begins with the item there and goes to the end."""
    if item_at(items, at) not in ("least", "above"):
        raise BadText(0, at)
    behind = at + 1
    counts = []
    while len(counts) < LEAST_BARS or behind < len(items):
        if len(counts) == MOST_BARS:
            raise BadText(0, behind)
        counts.append(number_at(items, behind, -MOST_COUNT, MOST_COUNT))
        behind += 1
    return Fact(counts, items[at] == "above")


def want_few_bars(many):
    """Raise BadNumber for what is no number of bars that facts can have."""
    want_number(many, LEAST_BARS, MOST_BARS, "many")


def want_pair(value, part):
    """Raise BadLot for what is no pair of anything."""
    if not is_list(value) or len(value) != 2:
        raise BadLot(part)


def want_lengths(value, many):
    """Raise BadRing for what is no row of lengths, Misfit for one of another number of them."""
    if not are_positive(value):
        raise BadRing("lengths")
    if len(value) != many:
        raise Misfit("bars")


def want_fact(value, part):
    """Raise BadFact for what is no fact."""
    if not isinstance(value, Fact):
        raise BadFact(part)


def want_facts(value, part):
    """Raise BadFact for what are no facts."""
    if not isinstance(value, Facts):
        raise BadFact(part)

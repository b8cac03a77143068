"""Whether a saying about unknown bars is sure, never, or open [16]."""

from ringbars.barring import facts_to_keep, kept_or_barred
from ringbars.errors import Impossible
from ringbars.facts import want_fact, want_facts
from ringbars.papers import Denial, Paper
from ringbars.params import want_as_many


class Keeps(Paper):
    """A row of lengths that keeps some facts."""

    def __init__(self, lengths):
        super().__init__("keeps", lengths)
        self.lengths = self.parts[0]


class Surely(Paper):
    """Weights that bar some facts with the contrary of one."""

    def __init__(self, weights):
        super().__init__("surely", weights)
        self.weights = self.parts[0]


class Either(Paper):
    """Two rows of lengths that keep some facts: the first keeps one more, the second does not."""

    def __init__(self, one, other):
        super().__init__("either", one, other)
        self.one = self.parts[0]
        self.other = self.parts[1]


class NoRing(Denial):
    """Weights that bar some facts."""

    def __init__(self, weights):
        super().__init__("noring", weights)
        self.weights = self.parts[0]


class Never(Denial):
    """Weights that bar some facts with one more."""

    def __init__(self, weights):
        super().__init__("never", weights)
        self.weights = self.parts[0]


def some_ring(facts):
    """A Keeps of some facts, or a NoRing."""
    want_facts(facts, "facts")
    lengths, weights = kept_or_barred(facts_to_keep(facts, ()))
    return NoRing(weights) if lengths is None else Keeps(lengths)


def judged(facts, fact):
    """The Surely, the Never or an Either of a fact."""
    want_judged(facts, fact)
    want_possible(facts)
    other, weights = kept_or_barred(facts_to_keep(facts, (fact.contrary(),)))
    if other is None:
        return Surely(weights)
    one, weights = kept_or_barred(facts_to_keep(facts, (fact,)))
    if one is None:
        return Never(weights)
    return Either(one, other)


def want_judged(facts, fact):
    """Raise the errors of some facts, and a fact about as many bars."""
    want_facts(facts, "facts")
    want_fact(fact, "fact")
    want_as_many(facts.many, len(fact.counts))


def want_possible(facts):
    """Raise Impossible for facts that no row of lengths keeps."""
    paper = some_ring(facts)
    if not paper:
        raise Impossible(paper)

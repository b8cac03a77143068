"""Checking the papers of ringbars.answers and ringbars.asking [16]."""

from ringbars.answers import Either, Keeps, Never, NoRing, Surely, want_judged
from ringbars.asking import Known, Look, looks_from, looks_needed, rows_left, want_asked
from ringbars.barring import do_bar, facts_to_keep
from ringbars.checks import are_positive, is_exactly, is_numbers
from ringbars.facts import are_kept, is_kept, want_facts
from ringbars.papers import is_called


def shows_ring(facts, value):
    """Whether a value is a right Keeps or NoRing of some facts."""
    want_facts(facts, "facts")
    if isinstance(value, Keeps) and is_called(value, "Keeps"):
        return do_keep(facts, value.lengths)
    if isinstance(value, NoRing) and is_called(value, "NoRing"):
        return are_barring(facts_to_keep(facts, ()), value.weights)
    return False


def shows_judged(facts, fact, value):
    """Whether a value is a right Surely, Never or Either of a fact."""
    want_judged(facts, fact)
    if isinstance(value, Surely) and is_called(value, "Surely"):
        return are_barring(facts_to_keep(facts, (fact.contrary(),)), value.weights)
    if isinstance(value, Never) and is_called(value, "Never"):
        return are_barring(facts_to_keep(facts, (fact,)), value.weights)
    if isinstance(value, Either) and is_called(value, "Either"):
        if not do_keep(facts, value.one) or not do_keep(facts, value.other):
            return False
        return is_kept(fact, value.one) and not is_kept(fact, value.other)
    return False


def shows_look(facts, lots, value):
    """Whether a value is a Look with the least number of looks, or the Known."""
    told = want_asked(facts, lots)
    rows = rows_left(facts, told)
    if isinstance(value, Look) and is_called(value, "Look"):
        return len(rows) > 1 and is_look(rows, told, value.lot, value.looks)
    if isinstance(value, Known) and is_called(value, "Known"):
        return len(rows) == 1 and is_exactly(value.answers, rows[0])
    return False


def do_keep(facts, value):
    """Whether any value is a row of lengths that keeps the facts."""
    return are_positive(value) and len(value) == facts.many and are_kept(facts, value)


def are_barring(rows, value):
    """Whether any value is weights that bar facts."""
    if not is_numbers(value) or len(value) != len(rows):
        return False
    return min(value) >= 0 and do_bar(rows, value)


def is_look(rows, lots, lot, looks):
    """Whether they are a lot to look at first, and the least number of looks."""
    least = looks_needed(rows)
    if not is_exactly(looks, least) or not is_numbers(lot) or lot not in lots:
        return False
    return looks_from(rows, lots.index(lot)) == least

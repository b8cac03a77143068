"""Facts about unknown bars looked at by rows of lengths and weights; nothing here uses the package.

A fact is a pair: its counts, and whether it is above.
"""

from functools import lru_cache
from itertools import product


def total(counts, lengths):
    """The sum of lengths, each times its count."""
    return sum(count * length for count, length in zip(counts, lengths))


def is_kept(fact, lengths):
    """Whether lengths keep a fact."""
    counts, above = fact
    return total(counts, lengths) > 0 if above else total(counts, lengths) >= 0


def closes(lengths):
    """Whether no bar is longer than the others together."""
    return all(length <= sum(lengths) - length for length in lengths)


def are_kept(facts, lengths):
    """Whether lengths close and keep all facts."""
    return closes(lengths) and all(is_kept(fact, lengths) for fact in facts)


def contrary(fact):
    """The fact that is kept just where this one is not."""
    return tuple(-count for count in fact[0]), not fact[1]


def points(many, lot):
    """The fact that a lot can point one way."""
    return tuple(-1 if bar in lot else 1 for bar in range(many)), False


def do_bar(many, facts, weights, last=None):
    """Whether weights of any values bar facts, and one more, last."""
    rows = [*facts, *[points(many, (bar,)) for bar in range(many)], *([] if last is None else [last])]
    if not isinstance(weights, (list, tuple)) or len(weights) != len(rows):
        return False
    if any(type(one) is not int or one < 0 for one in weights):
        return False
    mix = [sum(weight * counts[bar] for weight, (counts, above) in zip(weights, rows)) for bar in range(many)]
    strict = any(above and weight for weight, (counts, above) in zip(weights, rows))
    return max(mix) <= 0 and (min(mix) < 0 or strict)


@lru_cache(maxsize=None)
def closed_rows(many, most):
    """All rows of lengths up to a length that close."""
    return [row for row in product(range(1, most + 1), repeat=many) if closes(row)]


def rows_kept(many, facts, most):
    """All rows of lengths up to a length that close and keep all facts."""
    return [row for row in closed_rows(many, most) if all(is_kept(fact, row) for fact in facts)]


def answers(many, rows, lots):
    """All rows of answers that rows of lengths give, ascending."""
    asked = [points(many, lot) for lot in lots]
    return tuple(sorted({tuple(int(is_kept(fact, row)) for fact in asked) for row in rows}))


def looks_needed(rows):
    """The least number of looks that are always enough, by trying each lot at each time."""
    if len(rows) < 2:
        return 0
    return min(looks_from(rows, at) for at in range(len(rows[0])))


def looks_from(rows, at):
    """How many looks are enough with the first one at this lot; a great number if it tells nothing."""
    parts = [[row for row in rows if row[at] == answer] for answer in (0, 1)]
    return 1 + max(map(looks_needed, parts)) if all(parts) else 99

"""Whole spans and ties found by trying all; nothing here uses the package."""

from functools import lru_cache
from itertools import product

from tests.plain import all_spans, slack, triangles


def whole_rows(lengths, diagonals):
    """All rows of whole spans, ascending."""
    many = len(lengths)
    threes = triangles(many, diagonals)
    rows = all_spans(lengths, diagonals)
    return sorted(row for row in rows
                  if all(slack(lengths, list(diagonals), row, three) % 2 == 0 for three in threes))


def many_sums(lengths):
    """The lists that add up to 0, less those that add up to 2."""
    sums = [sum(row) for row in product(*[range(-length, length + 1, 2) for length in lengths])]
    return sums.count(0) - sums.count(2)


def owners(lengths):
    """The bar of each end."""
    return [bar for bar, length in enumerate(lengths) for _ in range(length)]


def all_ties(lengths):
    """All ties of a ring, ascending: each end is tried with each other one."""
    bars = tuple(owners(lengths))

    @lru_cache(maxsize=None)
    def rows(ends):
        if not ends:
            return [()]
        found = []
        for at in range(1, len(ends), 2):
            if bars[ends[0]] != bars[ends[at]]:
                for inner in rows(ends[1:at]):
                    found += [((ends[0], ends[at]),) + inner + outer for outer in rows(ends[at + 1:])]
        return found

    return sorted(tuple(sorted(row)) for row in rows(tuple(range(len(bars)))))


def crossings(lengths, diagonals, ties):
    """How many ties cross each diagonal."""
    bars = owners(lengths)
    return tuple(sum((first <= bars[one] < second) != (first <= bars[other] < second) for one, other in ties)
                 for first, second in diagonals)

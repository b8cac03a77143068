"""Lengths that keep some facts, or weights that bar them [16].

Rows of facts are told with those that the ring closes, and each weight goes
with one of them.
"""

from math import gcd, lcm

from ringbars.facts import points


def facts_to_keep(facts, more):
    """All facts that lengths must keep, closing, too, and some more, last."""
    closing = [points(facts.many, (bar,)) for bar in range(facts.many)]
    return list(facts.facts) + closing + list(more)


def mix_of(rows, weights):
    """For each bar its counts in the rows, each times the row's weight, added up."""
    many = len(rows[0].counts)
    return [sum([row.counts[bar] * weights[at] for at, row in enumerate(rows)]) for bar in range(many)]


def do_bar(rows, weights):
    """Whether integers from 0 on, one for each row, bar the rows."""
    mix = mix_of(rows, weights)
    if max(mix) > 0:
        return False
    return min(mix) < 0 or any([row.is_above and weights[at] != 0 for at, row in enumerate(rows)])


def kept_or_barred(rows):
    """Lengths that keep all rows, and None; or None, and weights that bar them.

    Lengths are 1 and something from 0 on; that, and by how much each row is
    kept, are unknowns that none may be below 0. Each line of the table tells
    one of them by those that are 0 at first.
    """
    many = len(rows[0].counts)
    table = [line_of(rows, at) for at in range(len(rows))]
    told = [many + at for at in range(len(rows))]
    while True:
        low = [one for at, one in enumerate(told) if table[at][-1] < 0]
        if low == []:
            return lengths_told(table, told, many), None
        # Always the first unknown is taken: so no table comes back.
        at = told.index(min(low))
        free = [one for one in range(many + len(rows)) if table[at][one] < 0]
        if free == []:
            return None, tuple(table[at][many:-1])
        table = [turned(line, table[at], free[0], number == at) for number, line in enumerate(table)]
        told[at] = free[0]


def line_of(rows, at):
    """The first line for a row: counts of all unknowns, and what they add up to, last."""
    units = [1 if number == at else 0 for number in range(len(rows))]
    least = 1 if rows[at].is_above else 0
    return [-count for count in rows[at].counts] + units + [sum(rows[at].counts) - least]


def turned(line, head, one, is_head):
    """The line with the count of an unknown taken away by the head, or the head turned for it."""
    if is_head:
        found = [-number for number in line]
    else:
        found = [number * -head[one] + line[one] * head[at] for at, number in enumerate(line)]
    common = gcd_of(found)
    return [number // common for number in found]


def gcd_of(numbers):
    """The greatest common divisor of integers, one other than 0 at least."""
    common = 0
    for number in numbers:
        common = gcd(common, number)
    return common


def lengths_told(table, told, many):
    """The lengths of many bars that the lines tell, all unknowns that they do not tell being 0."""
    scale = 1
    for at, one in enumerate(told):
        if one < many:
            scale = lcm(scale, table[at][one])
    lengths = [scale] * many
    for at, one in enumerate(told):
        if one < many:
            lengths[one] += table[at][-1] * (scale // table[at][one])
    common = gcd_of(lengths)
    return tuple([length // common for length in lengths])

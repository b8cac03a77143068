"""Fields of cuttings looked at with Python's own fractions; nothing here uses the package."""

from fractions import Fraction
from itertools import combinations, permutations

from tests.plain import triangles


def forms(lengths, diagonals):
    """For each triangle and side: counts of the diagonals and a number, the others less it."""
    many = len(lengths)
    found = []
    for three in triangles(many, diagonals):
        for side in combinations(three, 2):
            counts, rest = [0] * len(diagonals), 0
            for other in combinations(three, 2):
                sign = -1 if other == side else 1
                if other in diagonals:
                    counts[list(diagonals).index(other)] = sign
                else:
                    rest += sign * lengths[other[0] if other[1] - other[0] == 1 else other[1]]
            found.append((three, side, counts, rest))
    return found


def value(form, place):
    """What a form tells of a place."""
    return sum(count * one for count, one in zip(form[2], place)) + form[3]


def solve(rows):
    """The only place with all these forms 0, or None."""
    many = len(rows)
    now = [[Fraction(count) for count in row[2]] + [Fraction(-row[3])] for row in rows]
    for at in range(many):
        picked = [place for place in range(at, many) if now[place][at] != 0]
        if not picked:
            return None
        now[at], now[picked[0]] = now[picked[0]], now[at]
        now[at] = [one / now[at][at] for one in now[at]]
        for place in range(many):
            if place != at:
                less = now[place][at]
                now[place] = [one - less * two for one, two in zip(now[place], now[at])]
    return tuple(row[-1] for row in now)


def tips(lengths, diagonals):
    """All tips of a field, ascending."""
    told = forms(lengths, diagonals)
    places = {solve(rows) for rows in combinations(told, len(diagonals))} - {None}
    return sorted(place for place in places if all(value(form, place) >= 0 for form in told))


def pairs(place):
    """A place as the package tells it."""
    return tuple((one.numerator, one.denominator) for one in place)


def fractions_of(place):
    """A place of the package with Python's fractions."""
    return tuple(Fraction(*one) for one in place)


def determinant(rows):
    """The determinant, by all orders."""
    total = Fraction(0)
    for order in permutations(range(len(rows))):
        sign = (-1) ** sum(one > other for one, other in combinations(order, 2))
        for at, place in enumerate(order):
            sign *= rows[at][place]
        total += sign
    return total


def integral(poly):
    """The polynomial whose slope is this one."""
    return [Fraction(0)] + [one / (at + 1) for at, one in enumerate(poly)]


def at_value(poly, number):
    """What a polynomial, told by its counts, is at a number."""
    return sum(one * Fraction(number) ** at for at, one in enumerate(poly))


def moved(poly, step, turn):
    """The polynomial of turn * x + step."""
    total = [Fraction(0)] * len(poly)
    power = [Fraction(1)]
    for one in poly:
        for at, count in enumerate(power):
            total[at] += one * count
        longer = [Fraction(0)] * (len(power) + 1)
        for at, count in enumerate(power):
            longer[at] += count * step
            longer[at + 1] += count * turn
        power = longer
    return total


def size(lengths):
    """The size of a fan's field: spans laid out one after another, piece by piece.

    Each density is a polynomial on each stretch from an integer to the next one.
    """
    total = sum(lengths)
    first, second = lengths[0], lengths[1]
    pieces = [[Fraction(1)] if abs(first - second) <= at < first + second else [Fraction(0)]
              for at in range(total)]
    for length in lengths[2:-2]:
        pieces = longer(pieces, length, total)
    low, high = abs(lengths[-2] - lengths[-1]), lengths[-2] + lengths[-1]
    return sum((at_value(integral(pieces[at]), at + 1) - at_value(integral(pieces[at]), at)
                for at in range(low, min(high, total))), Fraction(0))


def longer(pieces, length, total):
    """The density of the next span: that of the one ahead added up from its least to its greatest."""
    sums, before = [], Fraction(0)
    for at in range(total):
        whole = integral(pieces[at])
        start = before - at_value(whole, at)
        sums.append([whole[0] + start] + whole[1:])
        before = at_value(sums[-1], at + 1)
    end = [before]
    found = []
    for at in range(total):
        top = moved(sums[at + length], length, 1) if at + length < total else end
        if at >= length:
            low = moved(sums[at - length], -length, 1)
        else:
            low = moved(sums[length - at - 1], length, -1)
        size_of_both = max(len(top), len(low))
        both = [one + [Fraction(0)] * (size_of_both - len(one)) for one in (top, low)]
        found.append([one - other for one, other in zip(*both)])
    return found

"""Fractions, told as pairs (number, by) in lowest terms, and rows of them [2], [13].

A row of them is reckoned with as a row of integers at a scale: each stands for
what it is divided by the scale.
"""

from math import gcd, lcm

from ringbars.checks import is_list, is_numbers, lowest


def is_fraction(value):
    """Whether any value is a pair of integers in lowest terms, the second above 0."""
    if not is_numbers(value) or len(value) != 2:
        return False
    return value[1] > 0 and gcd(value[0], value[1]) == 1


def are_fractions(value, many):
    """Whether any value is a list of so many fractions."""
    return is_list(value) and len(value) == many and all([is_fraction(one) for one in value])


def scale_of(fractions):
    """The least integer that each of the fractions has as a multiple of its by."""
    scale = 1
    for number, by in fractions:
        scale = lcm(scale, by)
    return scale


def at_scale(fractions, scale):
    """The integers that stand for fractions at a scale."""
    return tuple([number * (scale // by) for number, by in fractions])


def from_scale(numbers, scale):
    """The fractions that integers at a scale stand for."""
    return tuple([lowest(number, scale) for number in numbers])


def in_order(fractions):
    """The fractions, ascending as numbers."""
    scale = scale_of(fractions)
    return sorted(fractions, key=lambda one: one[0] * (scale // one[1]))


def places_in_order(places):
    """Rows of fractions, ascending as rows of numbers."""
    scale = scale_of([fraction for place in places for fraction in place])
    return tuple(sorted(places, key=lambda place: at_scale(place, scale)))


def sum_of(fractions):
    """The sum of fractions."""
    scale = scale_of(fractions)
    return lowest(sum(at_scale(fractions, scale)), scale)

"""Ties between the ends of the bars, and the whole spans that they tell [14]."""

from ringbars.checks import is_integer, is_list, is_numbers
from ringbars.cuttings import want_cutting
from ringbars.errors import BadNumber, BadTies, TooMany
from ringbars.lots import want_closed
from ringbars.rings import want_ring
from ringbars.whole import want_counted, want_not_long, want_whole

MOST_ENDS = 24
MOST_TIES = 200


def ties(ring):
    """All ties of a ring, ascending."""
    want_ended(ring)
    many = ties_in_all(ring)
    if many > MOST_TIES:
        raise TooMany("ties", MOST_TIES)
    return tuple([ties_with(ring, number) for number in range(many)])


def many_ties(ring):
    """How many ties a ring has."""
    want_ended(ring)
    return ties_in_all(ring)


def ties_at(ring, number):
    """The ties with this number, ascending."""
    want_ring(ring, "ring")
    if not is_integer(number):
        raise BadNumber("number")
    want_ended(ring)
    if not 0 <= number < ties_in_all(ring):
        raise BadNumber("number")
    return ties_with(ring, number)


def spans_of(ring, cutting, ties):
    """The whole spans that ties tell: how many of them cross each diagonal."""
    want_ring(ring, "ring")
    want_cutting(cutting, "cutting")
    if not is_list(ties) or not all([is_numbers(pair) and len(pair) == 2 for pair in ties]):
        raise BadTies("ties")
    want_counted(ring, cutting)
    if not are_ties(ring, ties):
        raise BadTies("ties")
    bars = bars_of_ends(ring)
    pairs = [(bars[one], bars[other]) for one, other in ties]
    return tuple([len([pair for pair in pairs if goes_over(pair, one)]) for one in cutting.diagonals])


def ties_of(ring, cutting, spans):
    """The ties that whole spans tell."""
    want_whole(ring, cutting, spans)
    by_diagonal = {one: spans[at] for at, one in enumerate(cutting.diagonals)}
    last = (0, len(ring) - 1)
    left, pairs = tied_within(ring, cutting, by_diagonal, last)
    ends = ends_of_bar(ring, len(ring) - 1)
    # The last bar leads back to corner 0: so its last end is the next one to it.
    return tuple(sorted(pairs + [(one, ends[-1 - at]) for at, one in enumerate(left)]))


def tied_within(ring, cutting, by_diagonal, side):
    """The ends tied over a side from the arc between its corners, and the pairs within.

    The ends stand in their order from the first corner to the second one. The
    side of the last bar is taken as one over which all ends of that bar are tied.
    """
    first, second = side
    if second - first == 1:
        return ends_of_bar(ring, first), []
    (corner,) = [three[1] for three in cutting.triangles if (three[0], three[2]) == side]
    one, within = tied_within(ring, cutting, by_diagonal, (first, corner))
    other, more = tied_within(ring, cutting, by_diagonal, (corner, second))
    third = by_diagonal[side] if side in by_diagonal else ring.lengths[-1]
    many = (len(one) + len(other) - third) // 2
    pairs = [(one[-1 - at], other[at]) for at in range(many)]
    return one[:len(one) - many] + other[many:], within + more + pairs


def bars_of_ends(ring):
    """The bar of each end, in order."""
    return [bar for bar, length in enumerate(ring.lengths) for _ in range(length)]


def ends_of_bar(ring, bar):
    """The ends of a bar, ascending."""
    first = sum(ring.lengths[:bar])
    return list(range(first, first + ring.lengths[bar]))


def goes_over(bars, diagonal):
    """Whether just one of two bars is on the arc between the corners of a diagonal."""
    first, second = diagonal
    return (first <= bars[0] < second) != (first <= bars[1] < second)


def are_ties(ring, value):
    """Whether pairs of integers are ties of a ring."""
    pairs = [tuple(pair) for pair in value]
    ends = [end for pair in pairs for end in pair]
    if sorted(ends) != list(range(ring.total)) or pairs != sorted(pairs):
        return False
    bars = bars_of_ends(ring)
    if any([one > other or bars[one] == bars[other] for one, other in pairs]):
        return False
    return not any([one < third < other < fourth for one, other in pairs for third, fourth in pairs])


def many_within(ring):
    """How many ties the ends from one to ahead of another one have, by these two."""
    bars = bars_of_ends(ring)
    many = {(end, end): 1 for end in range(len(bars) + 1)}
    for size in range(2, len(bars) + 1, 2):
        for first in range(len(bars) - size + 1):
            lasts = [last for last in range(first + 1, first + size, 2) if bars[last] != bars[first]]
            rows = [many[(first + 1, last)] * many[(last + 1, first + size)] for last in lasts]
            many[(first, first + size)] = sum(rows)
    return many


def ties_in_all(ring):
    """How many ties a ring has."""
    return many_within(ring).get((0, ring.total), 0)


def ties_with(ring, number):
    """The ties with a number that some have, ascending."""
    return tuple(pairs_with(bars_of_ends(ring), many_within(ring), 0, ring.total, number))


def pairs_with(bars, many, first, behind, number):
    """The pairs with a number among all of the ends from one to ahead of another one, ascending."""
    if first == behind:
        return []
    last = first + 1
    left = number
    while left >= ways_over(bars, many, first, last, behind):
        left = left - ways_over(bars, many, first, last, behind)
        last += 2
    # The ends within come ahead of those behind: so their pairs change last.
    inner, outer = left // many[(last + 1, behind)], left % many[(last + 1, behind)]
    within = pairs_with(bars, many, first + 1, last, inner)
    return [(first, last)] + within + pairs_with(bars, many, last + 1, behind, outer)


def ways_over(bars, many, first, last, behind):
    """How many ties have the pair of two ends, among those up to behind."""
    if bars[first] == bars[last]:
        return 0
    return many[(first + 1, last)] * many[(last + 1, behind)]


def want_ended(ring):
    """Raise the errors of a ring that closes and has few ends."""
    want_closed(ring)
    want_not_long(ring)
    if ring.total > MOST_ENDS:
        raise TooMany("ends", MOST_ENDS)

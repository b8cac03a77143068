"""Rows of whole spans, listed, counted and numbered [14]."""

from ringbars.checks import is_integer, is_numbers
from ringbars.cuttings import sides_of, want_cutting
from ringbars.errors import BadNumber, BadSpans, TooMany
from ringbars.leads import bar_spans
from ringbars.lots import want_closed
from ringbars.rings import want_ring
from ringbars.shapes import want_cut
from ringbars.spans import slacks

MOST_LONG = 12
MOST_ROWS = 400


def whole_spans(ring, cutting):
    """All rows of whole spans, ascending."""
    want_counted(ring, cutting)
    many = rows_in_all(ring, cutting)
    if many > MOST_ROWS:
        raise TooMany("spans", MOST_ROWS)
    rows = [()] if many > 0 else []
    for _ in cutting.diagonals:
        rows = [row + (span,) for row in rows for span in sorted(list(rows_by_next(ring, cutting, row)))]
    return tuple(rows)


def many_by_cutting(ring, cutting):
    """How many rows of whole spans there are, by the triangles of a cutting."""
    want_counted(ring, cutting)
    return rows_in_all(ring, cutting)


def many_by_sums(ring):
    """How many rows of whole spans there are, by lists that add up."""
    want_closed(ring)
    want_not_long(ring)
    sums = {0: 1}
    for length in ring.lengths:
        longer = {}
        for total in sums:
            for step in range(-length, length + 1, 2):
                longer[total + step] = longer.get(total + step, 0) + sums[total]
        sums = longer
    return sums.get(0, 0) - sums.get(2, 0)


def spans_at(ring, cutting, number):
    """The row of whole spans with this number, ascending."""
    want_ring(ring, "ring")
    want_cutting(cutting, "cutting")
    if not is_integer(number):
        raise BadNumber("number")
    want_counted(ring, cutting)
    if not 0 <= number < rows_in_all(ring, cutting):
        raise BadNumber("number")
    row = ()
    left = number
    for _ in cutting.diagonals:
        many = rows_by_next(ring, cutting, row)
        spans = sorted(list(many))
        while left >= many[spans[0]]:
            left = left - many[spans[0]]
            spans = spans[1:]
        row = row + (spans[0],)
    return row


def number_of(ring, cutting, spans):
    """The number that a row of whole spans has, ascending."""
    want_whole(ring, cutting, spans)
    number = 0
    for at, span in enumerate(spans):
        many = rows_by_next(ring, cutting, tuple(spans[:at]))
        number += sum([many[less] for less in many if less < span])
    return number


def are_whole(ring, cutting, spans):
    """Whether integers, one for each diagonal, are a row of whole spans."""
    return all([slack >= 0 and slack % 2 == 0 for slack in slacks(ring, cutting, 1, spans)])


def rows_in_all(ring, cutting):
    """How many rows of whole spans there are."""
    bars = bar_spans(ring)
    last = (0, len(ring) - 1)
    (triangle,) = [three for three in cutting.triangles if last in sides_of(three)]
    one, other = [side for side in sides_of(triangle) if side != last]
    many = joined(rows_beyond(bars, cutting, {}, one, triangle), rows_beyond(bars, cutting, {}, other, triangle))
    return many.get(bars[last], 0)


def rows_by_next(ring, cutting, row):
    """How many rows begin with this one, by the span of the next diagonal."""
    bars = bar_spans(ring)
    told = {cutting.diagonals[at]: span for at, span in enumerate(row)}
    diagonal = cutting.diagonals[len(row)]
    one, other = cutting.beside(diagonal)
    there = rows_beyond(bars, cutting, told, diagonal, one)
    back = rows_beyond(bars, cutting, told, diagonal, other)
    return {span: there[span] * back[span] for span in there if span in back}


def rows_beyond(bars, cutting, told, side, triangle):
    """How many rows there are of the diagonals beyond a side, by the span of this one.

    The triangle is the one beside it that is not beyond; told are spans that
    stay, with which some rows go.
    """
    if side in bars:
        return {bars[side]: 1}
    (beyond,) = [three for three in cutting.beside(side) if three != triangle]
    one, other = [edge for edge in sides_of(beyond) if edge != side]
    many = joined(rows_beyond(bars, cutting, told, one, beyond), rows_beyond(bars, cutting, told, other, beyond))
    return {told[side]: many[told[side]]} if side in told else many


def joined(one, other):
    """How many rows go by a triangle, by its third side, if so many go by two of them."""
    many = {}
    for first in one:
        for second in other:
            for third in range(abs(first - second), first + second + 1, 2):
                many[third] = many.get(third, 0) + one[first] * other[second]
    return many


def want_not_long(ring):
    """Raise TooMany for a ring with a bar that is too long here."""
    if max(ring.lengths) > MOST_LONG:
        raise TooMany("length", MOST_LONG)


def want_counted(ring, cutting):
    """Raise the errors of a ring of bars that are not long, and a cutting of it."""
    want_cut(ring, cutting)
    want_not_long(ring)


def want_row(cutting, spans):
    """Raise BadSpans for what is no list of integers, one for each diagonal."""
    if not is_numbers(spans) or len(spans) != len(cutting.diagonals):
        raise BadSpans("spans")


def want_whole(ring, cutting, spans):
    """Raise the errors of such a ring, its cutting, and a row of whole spans."""
    want_ring(ring, "ring")
    want_cutting(cutting, "cutting")
    want_row(cutting, spans)
    want_counted(ring, cutting)
    if not are_whole(ring, cutting, spans):
        raise BadSpans("spans")

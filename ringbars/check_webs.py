"""Checking the papers of ringbars.takenapart [17]."""

from ringbars.checks import is_numbers, is_within
from ringbars.papers import is_called
from ringbars.takenapart import Lies, LoopTooLong
from ringbars.webs import far_pin, want_web, way_length


def shows_lie(web, value):
    """Whether a value is any right Lies or LoopTooLong of a web."""
    want_web(web, "web")
    if isinstance(value, Lies) and is_called(value, "Lies"):
        return takes_apart(web, value.rows)
    if isinstance(value, LoopTooLong) and is_called(value, "LoopTooLong"):
        return is_too_long(web, value.bar, value.way)
    return False


def takes_apart(web, rows):
    """Whether any value is rows that take away all pins of a web but one."""
    spans = spans_by_bars(web)
    if spans is None or not isinstance(rows, tuple) or len(rows) != len(web.pins) - 1:
        return False
    left = list(web.pins)
    for row in rows:
        if not isinstance(row, tuple) or len(row) != 3 or row[0] not in left:
            return False
        left = [pin for pin in left if pin != row[0]]
        if not is_taken(spans, left, row):
            return False
        if len(row[1]) == 2:
            spans[row[1]] = row[2]
    return True


def spans_by_bars(web):
    """The span of each two joined pins, ascending; None if bars between two are of unlike lengths."""
    spans = {}
    for one, other, length in web.bars:
        pair = pair_of(one, other)
        if spans.get(pair, length) != length:
            return None
        spans[pair] = length
    return spans


def is_taken(spans, left, row):
    """Whether a row tells the others of a pin, and a right span of theirs if they are two.

    Left are the pins that are not taken away then.
    """
    pin, others, span = row
    right = tuple([other for other in left if pair_of(pin, other) in spans])
    if len(right) > 2 or others != right:
        return False
    if len(right) < 2:
        return span is None
    if not is_within(span, 0, None) or spans.get(right, span) != span:
        return False
    three = [span, spans[pair_of(pin, right[0])], spans[pair_of(pin, right[1])]]
    return 2 * max(three) <= sum(three)


def pair_of(one, other):
    """Two pins, ascending."""
    return (one, other) if one < other else (other, one)


def is_too_long(web, bar, way):
    """Whether they are a bar, and a way of other bars, less long, between its pins."""
    if not is_within(bar, 0, len(web) - 1) or not is_numbers(way):
        return False
    if not all([is_within(number, 0, len(web) - 1) and number != bar for number in way]):
        return False
    first, last, length = web.bars[bar]
    return leads_on(web, way, first, last) and way_length(web, way) < length


def leads_on(web, way, first, last):
    """Whether bars lead from one pin to another one, no pin met twice."""
    pins = [first]
    for number in way:
        pin = far_pin(web.bars[number], pins[-1])
        if pin is None or pin in pins:
            return False
        pins.append(pin)
    return pins[-1] == last

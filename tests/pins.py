"""Webs of bars between pins, looked at by trying all; nothing here uses the package.

A web is a list of triples of two pins and a length.
"""

from functools import lru_cache
from itertools import combinations
from random import Random


def pins_of(bars):
    """All pins, ascending."""
    return sorted({pin for bar in bars for pin in bar[:2]})


def ways(bars, one, other):
    """All ways from one pin to another one, in order."""
    found = []

    def go(way, pins):
        if pins[-1] == other:
            found.append(tuple(way))
            return
        for number, bar in enumerate(bars):
            if pins[-1] in bar[:2]:
                pin = bar[1] if bar[0] == pins[-1] else bar[0]
                if pin not in pins:
                    go(way + [number], pins + [pin])

    go([], [one])
    return sorted(found, key=lambda way: (len(way), way))


def length_of(bars, way):
    """The length of a way."""
    return sum(bars[number][2] for number in way)


def insides(bars, one, other, barred):
    """The pins between two on all rows of joined pins, none of them barred."""
    near = {pin: {far for bar in bars for far in bar[:2] if pin in bar[:2] and far != pin} for pin in pins_of(bars)}
    found, rows = set(), [(one,)]
    while rows:
        row = rows.pop()
        if other in near[row[-1]]:
            found.add(frozenset(row[1:]))
        rows += [row + (pin,) for pin in near[row[-1]] if pin not in row and pin not in barred and pin != other]
    return found


def has_knot(bars):
    """Whether some four pins make a knot."""
    return knot_in(tuple(sorted({tuple(sorted(bar[:2])) for bar in bars})))


@lru_cache(maxsize=None)
def knot_in(bars):
    """Whether some four pins make a knot: six ways are looked for, one after another."""
    def fits(left, used):
        if not left:
            return True
        return any(fits(left[1:], used | inside) for inside in left[0] if not used & inside)

    for four in combinations(pins_of(bars), 4):
        rows = [insides(bars, one, other, set(four)) for one, other in combinations(four, 2)]
        if all(rows) and fits(sorted(rows, key=len), frozenset()):
            return True
    return False


def loop_of(bars):
    """The first bar that is longer than a way of other bars between its pins, None without one."""
    for number, (one, other, length) in enumerate(bars):
        if any(length_of(bars, way) < length for way in ways(bars, one, other) if number not in way):
            return number
    return None


def spans_left(bars, one, other):
    """All whole spans of two pins, others being taken away one by one; None for any at all.

    For each two pins a set of spans is kept, or nothing where any will do. The web
    must have no knot with a bar between the two more.
    """
    spans = {}
    for first, second, length in bars:
        pair = frozenset((first, second))
        spans[pair] = spans.get(pair, {length}) & {length}
    left = set(pins_of(bars))
    while len(left) > 2:
        pin = min(left - {one, other}, key=lambda one: (len(near_pins(spans, one)), one))
        ends = sorted(near_pins(spans, pin))
        told = [spans.pop(frozenset((pin, end))) for end in ends]
        if len(ends) == 2:
            some = {span for x in told[0] for y in told[1] for span in range(abs(x - y), x + y + 1)}
            pair = frozenset(ends)
            spans[pair] = spans.get(pair, some) & some
        elif not all(told):
            return set()
        left.discard(pin)
    if any(not some for some in spans.values()):
        return set()
    return spans.get(frozenset((one, other)))


def near_pins(spans, pin):
    """The pins with which one has spans."""
    return {other for pair in spans if pin in pair for other in pair if other != pin}


def is_apart(bars, rows):
    """Whether rows take a web apart as [17] tells, value by value."""
    spans = {}
    for one, other, length in bars:
        if spans.setdefault(frozenset((one, other)), length) != length:
            return False
    left = pins_of(bars)
    if not isinstance(rows, tuple) or len(rows) != len(left) - 1:
        return False
    for row in rows:
        if not isinstance(row, tuple) or len(row) != 3 or row[0] not in left:
            return False
        left.remove(row[0])
        near = tuple(pin for pin in left if frozenset((pin, row[0])) in spans)
        if len(near) > 2 or row[1] != near:
            return False
        if len(near) < 2:
            if row[2] is not None:
                return False
            continue
        span = row[2]
        if type(span) is not int or span < 0 or spans.setdefault(frozenset(near), span) != span:
            return False
        sides = sorted([span] + [spans[frozenset((pin, row[0]))] for pin in near])
        if sides[2] > sides[0] + sides[1]:
            return False
    return True


def grown(number, most_bars=10, most_pins=8, most_length=5):
    """A web without a knot, grown by triangles, hanging and doubled bars, by a number."""
    pick = Random(number)
    names = ["a", "b", "c", "d", "e", "f", "g", "h1"][:most_pins]
    pick.shuffle(names)
    bars = [(names[0], names[1], pick.randint(1, most_length))]
    used = names[:2]
    size = pick.randint(1, most_bars)
    while len(bars) < size:
        kind = pick.randrange(6)
        free = [name for name in names if name not in used]
        one, other, length = pick.choice(bars)
        if kind == 5 and len(bars) > 2:
            # Bars left out: the web may fall apart.
            bars.pop(pick.randrange(len(bars)))
            size -= 1
            used = pins_of(bars)
        elif kind == 4 or not free:
            more = (one, other) if pick.random() < 0.5 else (other, one)
            bars.append((*more, pick.choice([length, length, pick.randint(1, most_length)])))
        elif kind < 3 and len(bars) + 2 <= size:
            bars += [(one, free[0], pick.randint(1, most_length)), (free[0], other, pick.randint(1, most_length))]
            used = used + free[:1]
        elif kind == 3 and len(free) > 1:
            bars.append((free[0], free[1], pick.randint(1, most_length)))
            used = used + free[:2]
        else:
            bars.append((pick.choice(used), free[0], pick.randint(1, most_length)))
            used = used + free[:1]
    pick.shuffle(bars)
    return bars


def any_bars(number):
    """Some bars, with a knot or without, by a number."""
    pick = Random(number)
    names = ["a", "b", "c", "d", "e", "f"][:pick.randint(4, 6)]
    return [(*pick.sample(names, 2), pick.randint(1, 3)) for _ in range(pick.randint(6, 10))]

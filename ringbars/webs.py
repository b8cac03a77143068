"""Webs: bars between pins [17]."""

from ringbars.checks import is_list, is_name, is_within
from ringbars.errors import BadText, BadWeb, NoPin, TooMany, Twice
from ringbars.knots import has_knot, joined_by
from ringbars.lots import in_order
from ringbars.params import want_bar
from ringbars.rings import MOST_LENGTH, want_ring
from ringbars.texts import item_at, items_of, number_at, want_word

MOST_BARS = 10
MOST_PINS = 8


class Web:
    """One to ten bars between two to eight pins, no four of which make a knot."""

    def __init__(self, bars):
        if not are_bars(bars):
            raise BadWeb("bars")
        if len(bars) > MOST_BARS:
            raise TooMany("bars", MOST_BARS)
        self.bars = tuple([tuple(bar) for bar in bars])
        self.pins = pins_of(self.bars)
        if len(self.pins) > MOST_PINS:
            raise TooMany("pins", MOST_PINS)
        if has_knot(joined_by(pairs_of(self.bars))):
            raise BadWeb("knot")

    def __eq__(self, other):
        return isinstance(other, Web) and self.bars == other.bars

    def __len__(self):
        return len(self.bars)

    def __str__(self):
        return " / ".join([f"{one} {other} {length}" for one, other, length in self.bars])

    def with_bar(self, one, other, length):
        """The web with one more bar, the last one."""
        return Web(self.bars + ((one, other, length),))

    def without(self, bar):
        """The web without a bar."""
        want_bar(bar, len(self.bars))
        return Web(self.bars[:bar] + self.bars[bar + 1:])

    @staticmethod
    def read(text):
        """The web whose text this is."""
        return read_web(items_of(text))


def joined_to(web, pin):
    """All pins that are joined to a pin, ascending."""
    want_web(web, "web")
    want_pin(web, pin)
    return tuple(sorted(joined_by(pairs_of(web.bars))[pin]))


def ways(web, one, other):
    """All ways from one pin to another one, in order."""
    want_two_pins(web, one, other)
    return ways_over(web, one, other)


def shortest_way(web, one, other):
    """The first of the ways of the least length, None without any."""
    want_two_pins(web, one, other)
    return least_way(web, one, other)


def makes_knot(web, one, other):
    """Whether a further bar between two pins would make a knot."""
    want_two_pins(web, one, other)
    return has_knot(joined_by(pairs_of(web.bars) + [(one, other)]))


def web_of(ring):
    """The web of a ring, its corners being the pins."""
    want_ring(ring, "ring")
    pins = ["c" + str(corner) for corner in range(len(ring))]
    ends = pins[1:] + pins[:1]
    return Web([(pins[bar], ends[bar], length) for bar, length in enumerate(ring.lengths)])


def put_together(one, other):
    """The web of the bars of one, then of those of another one."""
    want_web(one, "one")
    want_web(other, "other")
    return Web(one.bars + other.bars)


def are_bars(value):
    """Whether any value is a list of one or more bars between pins."""
    return is_list(value) and len(value) > 0 and all([is_bar(one) for one in value])


def is_bar(value):
    """Whether any value is a triple of two unlike pins and a length."""
    if not is_list(value) or len(value) != 3 or not is_within(value[2], 1, MOST_LENGTH):
        return False
    return is_name(value[0]) and is_name(value[1]) and value[0] != value[1]


def pairs_of(bars):
    """The pairs of pins that bars join, in order."""
    return [(one, other) for one, other, length in bars]


def pins_of(bars):
    """All pins of bars, ascending."""
    return tuple(sorted(list({pin: True for pair in pairs_of(bars) for pin in pair})))


def far_pin(bar, pin):
    """The other pin of a bar that has this one, None if it does not have it."""
    if pin == bar[0]:
        return bar[1]
    return bar[0] if pin == bar[1] else None


def ways_over(web, one, other):
    """All ways from one pin of a web to another one, in order."""
    found = []
    rows = [((), (one,))]
    while rows != []:
        found = found + [way for way, pins in rows if pins[-1] == other]
        rows = [longer for way, pins in rows if pins[-1] != other for longer in ways_on(web, way, pins)]
    return in_order(found)


def ways_on(web, way, pins):
    """The ways with one bar more, each with the pins that it meets."""
    steps = [(number, far_pin(bar, pins[-1])) for number, bar in enumerate(web.bars)]
    return [(way + (number,), pins + (pin,)) for number, pin in steps if pin is not None and pin not in pins]


def least_way(web, one, other):
    """The first of the ways of the least length between two pins, None without any."""
    found = ways_over(web, one, other)
    if len(found) == 0:
        return None
    least = min([way_length(web, way) for way in found])
    return [way for way in found if way_length(web, way) == least][0]


def way_length(web, way):
    """The length of a way: the sum of those of its bars."""
    return sum([web.bars[number][2] for number in way])


def want_web(value, part):
    """Raise BadWeb for what is no web."""
    if not isinstance(value, Web):
        raise BadWeb(part)


def want_pin(web, value):
    """Raise NoPin for what is no pin of a web."""
    if not is_name(value) or value not in web.pins:
        raise NoPin(value)


def want_two_pins(web, one, other):
    """Raise the errors of a web, and two unlike pins of it."""
    want_web(web, "web")
    want_pin(web, one)
    want_pin(web, other)
    if one == other:
        raise Twice(other)


def read_web(items):
    """The web whose text has these items."""
    bars = [read_bar(items, 0, [])]
    at = 3
    while at < len(items):
        if len(bars) == MOST_BARS:
            raise BadText(0, at)
        want_word(items, at, "/")
        bars.append(read_bar(items, at + 1, bars))
        at += 4
    return Web(bars)


def read_bar(items, at, ahead):
    """The bar whose first pin is the item there, behind those ahead."""
    pairs = pairs_of(ahead)
    pins = pins_of(ahead)
    one = read_pin(items, at, pins)
    other = read_pin(items, at + 1, pins if one in pins else pins + (one,))
    if one == other or has_knot(joined_by(pairs + [(one, other)])):
        raise BadText(0, at + 1)
    return one, other, number_at(items, at + 2, 1, MOST_LENGTH)


def read_pin(items, at, pins):
    """The pin that the item there is, behind those ahead."""
    pin = item_at(items, at)
    if not is_name(pin) or (pin not in pins and len(pins) >= MOST_PINS):
        raise BadText(0, at)
    return pin

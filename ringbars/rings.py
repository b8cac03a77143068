"""Rings of bars, and the sorts of their lots [4]."""

from ringbars.checks import is_list, is_numbers, is_within
from ringbars.errors import BadNumber, BadRing, BadText, TooMany
from ringbars.gaps import sort_by
from ringbars.params import want_bar, want_lot, want_number
from ringbars.texts import items_of, number_at

LEAST_BARS = 3
MOST_BARS = 8
MOST_LENGTH = 1000000


class Ring:
    """Three to eight bars, joined end to end."""

    def __init__(self, lengths):
        if not are_lengths(lengths):
            raise BadRing("lengths")
        if len(lengths) < LEAST_BARS:
            raise BadRing("bars")
        if len(lengths) > MOST_BARS:
            raise TooMany("bars", MOST_BARS)
        self.lengths = tuple(lengths)
        self.total = sum(self.lengths)
        self.closes = 2 * max(self.lengths) <= self.total
        self.is_clear = not has_level(self.lengths)

    def __len__(self):
        return len(self.lengths)

    def __eq__(self, other):
        return isinstance(other, Ring) and self.lengths == other.lengths

    def __str__(self):
        return " ".join([str(length) for length in self.lengths])

    def length_of(self, lot):
        """The length of a lot: the sum of those of its bars."""
        bars = want_lot(lot, len(self.lengths), "lot")
        return sum([self.lengths[bar] for bar in bars])

    def sort_of(self, lot):
        """The sort of a lot: short, long or level."""
        return sort_by(2 * self.length_of(lot) - self.total)

    def with_length(self, bar, length):
        """The ring in which this bar has another length."""
        want_bar(bar, len(self.lengths))
        want_number(length, 1, MOST_LENGTH, "length")
        return Ring(self.lengths[:bar] + (length,) + self.lengths[bar + 1:])

    def begun_at(self, bar):
        """The ring numbered from this bar on."""
        want_bar(bar, len(self.lengths))
        return Ring(self.lengths[bar:] + self.lengths[:bar])

    def backwards(self):
        """The ring numbered the other way round, bar 0 staying bar 0."""
        return Ring(self.lengths[:1] + self.lengths[:0:-1])

    def in_order(self, order):
        """The ring whose bar k is bar order[k] of this one."""
        if not is_numbers(order) or sorted(order) != list(range(len(self.lengths))):
            raise BadNumber("order")
        return Ring([self.lengths[bar] for bar in order])

    def as_one(self, bar):
        """The ring in which this bar and the next one are one bar."""
        want_bar(bar, len(self.lengths))
        if bar == len(self.lengths) - 1:
            return Ring((self.lengths[bar] + self.lengths[0],) + self.lengths[1:bar])
        both = self.lengths[bar] + self.lengths[bar + 1]
        return Ring(self.lengths[:bar] + (both,) + self.lengths[bar + 2:])

    def in_two(self, bar, length):
        """The ring in which this bar is two, the first one of this length."""
        want_bar(bar, len(self.lengths))
        want_number(length, 1, self.lengths[bar] - 1, "length")
        both = (length, self.lengths[bar] - length)
        return Ring(self.lengths[:bar] + both + self.lengths[bar + 1:])

    @staticmethod
    def read(text):
        """The ring whose text this is."""
        return read_ring(items_of(text), 0)


def are_lengths(value):
    """Whether it is a list of integers that bars can have as lengths."""
    return is_list(value) and all([is_within(one, 1, MOST_LENGTH) for one in value])


def has_level(lengths):
    """Whether some of the lengths add up to half of them all."""
    sums = [0]
    for length in lengths:
        sums = sums + [one + length for one in sums]
    return any([2 * one == sum(lengths) for one in sums])


def read_ring(items, at):
    """The ring whose text begins with the item there and goes to the end."""
    lengths = []
    while len(lengths) < LEAST_BARS or at < len(items):
        if len(lengths) == MOST_BARS:
            raise BadText(0, at)
        lengths.append(number_at(items, at, 1, MOST_LENGTH))
        at += 1
    return Ring(lengths)


def want_ring(value, part):
    """Raise BadRing for what is no ring."""
    if not isinstance(value, Ring):
        raise BadRing(part)

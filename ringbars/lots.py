"""Lots of the bars of a ring, by their sorts [4]."""

from ringbars.errors import Level, TooLong
from ringbars.params import want_bar, want_number
from ringbars.rings import MOST_BARS, want_ring


def lots_of(many):
    """All lots of so many bars."""
    want_number(many, 1, MOST_BARS, "many")
    lots = [()]
    for bar in range(many):
        lots = lots + [lot + (bar,) for lot in lots]
    return in_order(lots)


def short_lots(ring):
    """The book of a ring: all its short lots."""
    want_ring(ring, "ring")
    return lots_by_sort(ring, "short")


def level_lots(ring):
    """All level lots of a ring."""
    want_ring(ring, "ring")
    return lots_by_sort(ring, "level")


def least_long(ring):
    """All long lots of a ring that have no other long one within."""
    want_ring(ring, "ring")
    longs = lots_by_sort(ring, "long")
    # What has a long lot within it is long: so one bar less is enough to ask.
    return tuple([lot for lot in longs if not any([less in longs for less in lots_less(lot)])])


def greatest_short(ring):
    """All short lots of a ring that lie within no other short one."""
    want_ring(ring, "ring")
    shorts = lots_by_sort(ring, "short")
    within = [less for lot in shorts for less in lots_less(lot)]
    return tuple([lot for lot in shorts if lot not in within])


def too_long(ring):
    """The bar that alone is long, None if the ring closes."""
    want_ring(ring, "ring")
    if ring.closes:
        return None
    return ring.lengths.index(max(ring.lengths))


def long_three(ring):
    """The lot of the three bars that are two by two long, None without any."""
    want_ring(ring, "ring")
    return three_of(ring)


def short_counts(ring, bar):
    """How many short lots of 0, of 1, .. of all bars have this bar."""
    want_ring(ring, "ring")
    want_bar(bar, len(ring))
    return shorts_with(ring, bar)


def in_order(lots):
    """The tuple of the lots, those of fewer bars first."""
    return tuple(sorted(lots, key=lambda lot: (len(lot), lot)))


def lots_by_sort(ring, sort):
    """All lots of a ring of one sort."""
    return tuple([lot for lot in lots_of(len(ring)) if ring.sort_of(lot) == sort])


def three_of(ring):
    """The three bars of a right ring that are two by two long, None without any."""
    for lot in lots_of(len(ring)):
        if len(lot) == 3 and all([ring.sort_of(two) == "long" for two in lots_less(lot)]):
            return lot
    return None


def shorts_with(ring, bar):
    """How many short lots of 0, of 1, .. of all bars of a right ring have this bar."""
    sizes = [len(lot) for lot in lots_by_sort(ring, "short") if bar in lot]
    return tuple([sizes.count(size) for size in range(len(ring) + 1)])


def lots_less(lot):
    """The lots that come of this one if one bar of it is left out."""
    return [lot[:at] + lot[at + 1:] for at in range(len(lot))]


def want_closed(ring):
    """Raise BadRing for what is no ring, then TooLong for one that does not close."""
    bar = too_long(ring)
    if bar is not None:
        raise TooLong(bar)


def want_clear(ring):
    """Raise the errors of a ring that closes, then Level for one that is not clear."""
    want_closed(ring)
    want_no_level(ring)


def want_no_level(ring):
    """Raise Level for a ring that is not clear."""
    if not ring.is_clear:
        raise Level(level_lots(ring)[0])

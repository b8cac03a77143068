"""Whether two rings have one book [4]."""

from ringbars.lots import lots_of
from ringbars.params import want_as_many
from ringbars.rings import want_ring


def same_book(one, other):
    """Whether two rings have the same short lots."""
    return first_unlike(one, other) is None


def first_unlike(one, other):
    """The first lot that is of unlike sorts in two rings, None without one."""
    want_ring(one, "one")
    want_ring(other, "other")
    want_as_many(len(one), len(other))
    for lot in lots_of(len(one)):
        if one.sort_of(lot) != other.sort_of(lot):
            return lot
    return None

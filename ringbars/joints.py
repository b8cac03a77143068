"""The joints of a ring, and how far they open [6]."""

from ringbars.arcs import corner_range
from ringbars.lots import want_closed
from ringbars.params import want_corner
from ringbars.rings import want_ring


def opening(ring, corner):
    """The least and the greatest opening of the joint at a corner."""
    want_joint(ring, corner)
    many = len(ring)
    return corner_range(ring, (corner - 1) % many, (corner + 1) % many)


def straightens(ring, corner):
    """Whether the opening can be the sum of both lengths."""
    most = opening(ring, corner)[1]
    return most == sum(joint_lengths(ring, corner))


def folds(ring, corner):
    """Whether the opening can be the difference of both lengths."""
    least = opening(ring, corner)[0]
    one, other = joint_lengths(ring, corner)
    return least == abs(one - other)


def turns_round(ring, corner):
    """Whether the joint both straightens and folds."""
    return straightens(ring, corner) and folds(ring, corner)


def round_joints(ring):
    """The corners whose joints turn round."""
    want_closed(ring)
    return tuple([corner for corner in range(len(ring)) if turns_round(ring, corner)])


def stops_at(ring, corner):
    """The long lots that keep a joint from straightening, and from folding."""
    want_joint(ring, corner)
    both = sorted([(corner - 1) % len(ring), corner])
    others = [bar for bar in range(len(ring)) if bar not in both]
    # min and max take the first one of equals, and bars stand ascending here.
    lesser = min(both, key=lambda bar: ring.lengths[bar])
    longest = max(others, key=lambda bar: ring.lengths[bar])
    lots = [tuple(both), tuple(sorted((lesser, longest)))]
    return tuple([lot for lot in lots if ring.sort_of(lot) == "long"])


def joint_lengths(ring, corner):
    """The lengths of the two bars of a joint."""
    return ring.lengths[corner - 1], ring.lengths[corner]


def want_joint(ring, corner):
    """Raise an error for what is no ring that closes, and a corner of it."""
    want_ring(ring, "ring")
    want_corner(corner, len(ring))
    want_closed(ring)

"""The holes of the room of all shapes, counted by lots [10]."""

from ringbars.lots import shorts_with, want_clear


def holes(ring):
    """How many holes a ring has, of each dimension."""
    want_clear(ring)
    return holes_by_lots(ring)


def space_holes(ring):
    """How many holes it has with mirrored cells taken for one, of each dimension."""
    want_clear(ring)
    counts = shorts_with(ring, 0)
    many = len(ring)
    few = [sum(counts[:dimension + 2]) for dimension in range(many - 2)]
    return tuple([few[at] - sum(counts[many - 1 - at:]) for at in range(many - 2)])


def alternating(ring):
    """The numbers of the holes added with the signs 1, -1, 1 and so on."""
    want_clear(ring)
    found = holes_by_lots(ring)
    return sum(found[::2]) - sum(found[1::2])


def holes_by_lots(ring):
    """The holes of a ring that closes and is clear, by its short lots."""
    counts = shorts_with(ring, ring.lengths.index(max(ring.lengths)))
    many = len(ring)
    return tuple([counts[at + 1] + counts[many - 2 - at] for at in range(many - 2)])

"""Flips of cuttings that lead spans and places along [14]."""

from ringbars.cuttings import flips_between, want_cutting, want_diagonal
from ringbars.errors import BadSpans
from ringbars.fields import want_four, want_place, want_placed
from ringbars.papers import Paper
from ringbars.params import want_as_many
from ringbars.quotients import at_scale, from_scale, scale_of
from ringbars.rings import want_ring
from ringbars.shapes import want_cut
from ringbars.spans import are_let, side_spans
from ringbars.whole import want_row, want_whole


class Flips(Paper):
    """Rows (diagonal, spans): this diagonal goes, and these are the spans then."""

    def __init__(self, rows):
        super().__init__("flips", rows)
        self.rows = self.parts[0]


def flipped_spans(ring, cutting, spans, diagonal):
    """The cutting flipped at a diagonal, and its whole spans."""
    want_ring(ring, "ring")
    want_cutting(cutting, "cutting")
    want_row(cutting, spans)
    want_diagonal(cutting, diagonal)
    want_whole(ring, cutting, spans)
    return flip_at(ring, cutting, 1, spans, tuple(diagonal))


def flipped_place(ring, cutting, place, diagonal):
    """The cutting flipped at a diagonal, and the place in its field."""
    want_four(ring)
    want_cutting(cutting, "cutting")
    want_place(cutting, place)
    want_diagonal(cutting, diagonal)
    want_placed(ring, cutting, place)
    scale = scale_of(place)
    if not are_let(ring, cutting, scale, at_scale(place, scale)):
        raise BadSpans("place")
    other, numbers = flip_at(ring, cutting, scale, at_scale(place, scale), tuple(diagonal))
    return other, from_scale(numbers, scale)


def led_to(ring, cutting, spans, other):
    """The Flips of fewest rows that lead whole spans to another cutting."""
    want_led(ring, cutting, spans, other)
    now, told = cutting, tuple(spans)
    rows = []
    for behind in flips_between(cutting, other)[1:]:
        (gone,) = [one for one in now.diagonals if one not in behind.diagonals]
        now, told = flip_at(ring, now, 1, told, gone)
        rows.append((gone, told))
    return Flips(rows)


def flip_at(ring, cutting, scale, spans, diagonal):
    """The cutting flipped at a diagonal, and what spans at a scale come to."""
    by_side = side_spans(ring, cutting, scale, spans)
    first, second = diagonal
    (third, fourth) = [corner for three in cutting.beside(diagonal) for corner in three if corner not in diagonal]
    around = [by_side[tuple(sorted(pair))] for pair in ((first, third), (third, second), (second, fourth),
                                                        (fourth, first))]
    come = tuple(sorted((third, fourth)))
    by_side[come] = max(around[0] + around[2], around[1] + around[3]) - by_side[diagonal]
    flipped = cutting.flipped(diagonal)
    return flipped, tuple([by_side[one] for one in flipped.diagonals])


def want_led(ring, cutting, spans, other):
    """Raise the errors of whole spans by a cutting, and of another cutting."""
    want_two_cut(ring, cutting, spans, other)
    want_whole(ring, cutting, spans)


def want_two_cut(ring, cutting, spans, other):
    """Raise the errors of a ring that closes, integers by a cutting, and another cutting."""
    want_ring(ring, "ring")
    want_cutting(cutting, "cutting")
    want_row(cutting, spans)
    want_cutting(other, "other")
    want_as_many(len(ring), other.many)
    want_cut(ring, cutting)

"""The size of fields, by lots and by bodies that pack them [13]."""

from math import factorial

from ringbars.checks import lowest
from ringbars.cells import want_few
from ringbars.fields import MOST_FIELD, faces_of, tips_of, value_on, want_field, want_four
from ringbars.gaps import excess_of
from ringbars.linear import determinant
from ringbars.lots import lots_by_sort, want_closed
from ringbars.papers import Paper
from ringbars.quotients import at_scale, scale_of, sum_of


class Packed(Paper):
    """Bodies that pack a field."""

    def __init__(self, bodies):
        super().__init__("packed", bodies)
        self.bodies = self.parts[0]


def size_by_lots(ring):
    """The size of the fields of a ring, by its long lots."""
    want_four(ring)
    want_closed(ring)
    return lots_size(ring)


def packed(ring, cutting):
    """A Packed of the field, its bodies' tips being tips of the field."""
    want_packed(ring, cutting)
    return Packed(bodies_of(ring, cutting))


def size_of(ring, cutting):
    """The sizes of bodies that pack the field, added up."""
    want_packed(ring, cutting)
    return sum_of([body_size(body) for body in bodies_of(ring, cutting)])


def lots_size(ring):
    """The size of the fields of a ring of four bars or more that closes."""
    many = len(ring.lengths)
    total = 0
    for lot in lots_by_sort(ring, "long"):
        # All is taken times -1: so the lots that an odd number of bars are not in count.
        sign = 1 if (many - len(lot)) % 2 == 1 else -1
        total += sign * power(excess_of(ring.lengths, lot), many - 3)
    return lowest(total, 2 * factorial(many - 3))


def power(number, times):
    """The number so many times with itself."""
    told = 1
    for _ in range(times):
        told = told * number
    return told


def bodies_of(ring, cutting):
    """Bodies that pack the field of a cutting of few bars, none if its size is 0."""
    if lots_size(ring)[0] == 0:
        return ()
    tips = tips_of(ring, cutting)
    scale = scale_of([fraction for tip in tips for fraction in tip])
    numbers = [at_scale(tip, scale) for tip in tips]
    faces = []
    for face in faces_of(ring, cutting):
        faces.append([at for at in range(len(tips)) if value_on(face, numbers[at], scale) == 0])
    rows = parted(list(range(len(tips))), faces)
    return tuple([tuple([tips[at] for at in row]) for row in rows])


def parted(part, faces):
    """Rows of tips, each of a body, that pack a part of the field.

    A part is the tips on all of some faces, ascending. Its first tip is put to
    what packs each lid of it that has it not; as always the first one is taken,
    bodies on both sides of a lid pack it alike.
    """
    if len(part) == 1:
        return [part]
    rows = []
    for lid in lids_of(part, faces):
        if part[0] not in lid:
            rows = rows + [part[:1] + row for row in parted(lid, faces)]
    return rows


def lids_of(part, faces):
    """What the faces have in common with a part: such as lies within no greater one."""
    common = {tuple([tip for tip in part if tip in face]): True for face in faces}
    found = [lid for lid in common if len(lid) < len(part)]
    return [list(lid) for lid in found if not any([is_within_lot(lid, other) for other in found])]


def is_within_lot(lot, other):
    """Whether all of a lot is in another one, which has more."""
    return len(lot) < len(other) and all([one in other for one in lot])


def body_size(body):
    """The size of a body, a fraction."""
    scale = scale_of([fraction for tip in body for fraction in tip])
    rows = [at_scale(tip, scale) for tip in body]
    many = len(rows) - 1
    return lowest(abs(turn_of(rows)), power(scale, many) * factorial(many))


def turn_of(rows):
    """The determinant of rows, each less the first one of them.

    Its sign tells on which side of all rows but one this one lies.
    """
    return determinant([[row[at] - rows[0][at] for at in range(len(row))] for row in rows[1:]])


def want_packed(ring, cutting):
    """Raise the errors of a ring of four to seven bars that closes, and its cutting."""
    want_field(ring, cutting)
    want_few(ring, MOST_FIELD)

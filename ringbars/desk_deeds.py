"""Doing the deed lines of a desk [18].

Each function is told what was read of its line: the first word, and what the
others stand for.
"""

from ringbars.checks import first_twice
from ringbars.desk_lines import ASKS, first_word, read_line
from ringbars.errors import BadText, Twice
from ringbars.facts import Facts
from ringbars.params import want_number
from ringbars.shelves import Shelf, want_shelf, want_there


def changed(shelf, line):
    """The shelf behind a deed line, and the answer."""
    want_shelf(shelf, "shelf")
    if first_word(line) in ASKS:
        raise BadText(0, 0)
    told = read_line(line)
    want_there(shelf, told)
    if told[0] in OF_RING:
        return with_change(shelf, told)
    deed = OF_SHELF[told[0]]
    return deed(shelf, told)


def with_change(shelf, told):
    """The shelf with one ring changed, and its text."""
    name = told[1]
    change = OF_RING[told[0]]
    ring = change(shelf.ring(name), told)
    rings = [(name, ring) if row[0] == name else row for row in shelf.rings]
    return Shelf(rings, shelf.many, shelf.facts), str(ring)


def lengthened(ring, told):
    """The ring with another length of a bar."""
    return ring.with_length(told[2], told[3])


def begun(ring, told):
    """The ring numbered from a bar on."""
    return ring.begun_at(told[2])


def turned(ring, told):
    """The ring numbered the other way round."""
    return ring.backwards()


def joined(ring, told):
    """The ring with a bar and the next one put together."""
    return ring.as_one(told[2])


def parted(ring, told):
    """The ring with a bar cut in two."""
    return ring.in_two(told[2], told[3])


def put(shelf, told):
    """The shelf with one more ring, and how many there are."""
    rings = shelf.rings + ((told[1], told[2]),)
    return Shelf(rings, shelf.many, shelf.facts), str(len(rings))


def drop(shelf, told):
    """The shelf without a ring, and how many are left."""
    rings = [row for row in shelf.rings if row[0] != told[1]]
    return Shelf(rings, shelf.many, shelf.facts), str(len(rings))


def set_bars(shelf, told):
    """The shelf with a number of bars set, and no facts, and this number."""
    return Shelf(shelf.rings, told[1]), str(told[1])


def tell(shelf, told):
    """The shelf with one more fact, and its number."""
    facts = Facts(shelf.many, shelf.facts).with_fact(told[1]).facts
    return Shelf(shelf.rings, shelf.many, facts), str(len(facts) - 1)


def strike(shelf, told):
    """The shelf without some facts, and how many are left."""
    numbers = told[1:]
    for number in numbers:
        want_number(number, 0, len(shelf.facts) - 1, "number")
    twice = first_twice(numbers)
    if twice is not None:
        raise Twice(twice)
    facts = [fact for number, fact in enumerate(shelf.facts) if number not in numbers]
    return Shelf(shelf.rings, shelf.many, facts), str(len(facts))


OF_RING = {"length": lengthened, "begin": begun, "backwards": turned, "join": joined, "cut": parted}
OF_SHELF = {"put": put, "drop": drop, "bars": set_bars, "tell": tell, "strike": strike}

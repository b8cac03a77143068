"""The lines that a desk is told, read word by word [18]."""

from ringbars.checks import is_name
from ringbars.errors import BadText
from ringbars.facts import read_fact
from ringbars.rings import read_ring
from ringbars.texts import item_at, items_of, number_at, want_end

DEEDS = ("put", "length", "begin", "backwards", "join", "cut", "drop", "bars", "tell", "strike")
ASKS = ("names", "show", "sort", "closes", "clear", "same", "apart", "round", "pieces", "three", "cells", "holes",
        "point", "against", "walls", "slack", "size", "whole", "book", "least", "set", "facts", "fact", "can", "judge")

# What stands behind the first word of each line; numbers, rings and facts go to its end.
FORMS = {
    "put": ("name", "ring"),
    "length": ("name", "number", "number"),
    "begin": ("name", "number"),
    "backwards": ("name",),
    "join": ("name", "number"),
    "cut": ("name", "number", "number"),
    "drop": ("name",),
    "bars": ("number",),
    "tell": ("fact",),
    "strike": ("numbers",),
    "names": (),
    "show": ("name",),
    "sort": ("name", "numbers"),
    "closes": ("name",),
    "clear": ("name",),
    "same": ("name", "name"),
    "apart": ("name", "number", "number"),
    "round": ("name",),
    "pieces": ("name",),
    "three": ("name",),
    "cells": ("name",),
    "holes": ("name",),
    "point": ("name", "numbers"),
    "against": ("name", "number", "number"),
    "walls": ("name",),
    "slack": ("name", "number"),
    "size": ("name",),
    "whole": ("name",),
    "book": ("name",),
    "least": ("name",),
    "set": (),
    "facts": (),
    "fact": ("number",),
    "can": (),
    "judge": ("fact",),
}


def read_line(line):
    """The first word of a line, and what the others stand for, a tuple."""
    items = items_of(line)
    if items[0] not in FORMS:
        raise BadText(0, 0)
    told = (items[0],)
    for at, kind in enumerate(FORMS[items[0]]):
        told = told + read_part(items, 1 + at, kind)
    if not goes_on(items[0]):
        want_end(items, len(told))
    return told


def first_word(line):
    """The first word of any line; raise BadText for what is no string."""
    return items_of(line)[0]


def goes_on(word):
    """Whether the lines with this first word have a last part of any number of items."""
    return FORMS[word][-1:] in (("numbers",), ("ring",), ("fact",))


def read_part(items, at, kind):
    """What the items from there on stand for, a tuple."""
    if kind == "ring":
        return (read_ring(items, at),)
    if kind == "fact":
        return (read_fact(items, at),)
    if kind == "numbers":
        ends = range(at, max(at + 1, len(items)))
        return tuple([number_at(items, end, 0, None) for end in ends])
    if kind == "number":
        return (number_at(items, at, 0, None),)
    if not is_name(item_at(items, at)):
        raise BadText(0, at)
    return (items[at],)

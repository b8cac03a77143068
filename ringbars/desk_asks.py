"""Answering the ask lines of a desk [18].

Each function is told what was read of its line: the first word, and what the
others stand for.
"""

from ringbars.alikes import first_unlike
from ringbars.answers import judged, some_ring
from ringbars.arcs import corner_range
from ringbars.cells import many_cells
from ringbars.desk_lines import DEEDS, first_word, read_line
from ringbars.errors import BadText
from ringbars.facts import Facts
from ringbars.families import book_of
from ringbars.holes import holes
from ringbars.joints import round_joints
from ringbars.lengths import lengths_for
from ringbars.lines import against, can_point
from ringbars.lots import long_three
from ringbars.params import want_number
from ringbars.pieces import many_pieces
from ringbars.shelves import want_shelf, want_there
from ringbars.sizes import size_by_lots
from ringbars.slack import slack
from ringbars.walls import walls
from ringbars.whole import many_by_sums


def answer_of(shelf, line):
    """The answer to an ask line."""
    want_shelf(shelf, "shelf")
    if first_word(line) in DEEDS:
        raise BadText(0, 0)
    told = read_line(line)
    want_there(shelf, told)
    if told[0] in OF_RING:
        answer = OF_RING[told[0]]
        return answer(shelf.ring(told[1]), told)
    other = OF_SHELF[told[0]]
    return other(shelf, told)


def yes_or_no(holds):
    """The word for whether something holds."""
    return "yes" if holds else "no"


def words_of(values):
    """Names and numbers with blanks between, or a dash for none at all."""
    return " ".join([str(value) for value in values]) if len(values) > 0 else "-"


def facts_of(shelf):
    """The facts that a shelf keeps."""
    return Facts(shelf.many, shelf.facts)


def ring_text(ring, told):
    """The text of a ring."""
    return str(ring)


def lot_sort(ring, told):
    """The sort of a lot."""
    return ring.sort_of(told[2:])


def does_close(ring, told):
    """Whether a ring closes."""
    return yes_or_no(ring.closes)


def is_clear(ring, told):
    """Whether a ring is clear."""
    return yes_or_no(ring.is_clear)


def spans_apart(ring, told):
    """The least and the greatest span of two corners."""
    return words_of(corner_range(ring, told[2], told[3]))


def joints_turning(ring, told):
    """The corners whose joints turn round."""
    return words_of(round_joints(ring))


def piece_count(ring, told):
    """How many pieces there are."""
    return str(many_pieces(ring))


def bars_long(ring, told):
    """The three bars that are two by two long."""
    bars = long_three(ring)
    return "-" if bars is None else words_of(bars)


def cell_counts(ring, told):
    """How many cells there are, by dimension."""
    return words_of(many_cells(ring))


def hole_counts(ring, told):
    """How many holes there are, by dimension."""
    return words_of(holes(ring))


def can_align(ring, told):
    """Whether some bars can point one way."""
    return yes_or_no(can_point(ring, told[2:]))


def can_oppose(ring, told):
    """Whether two bars can point against one another."""
    return yes_or_no(against(ring, told[2], told[3]))


def walls_told(ring, told):
    """The walls of the lengths of all bars but the last."""
    return words_of(walls(ring.lengths[:-1]))


def slack_told(ring, told):
    """How much shorter, and longer, a bar may be."""
    paper = slack(ring, told[2])
    return words_of([paper.down, "-" if paper.up is None else paper.up])


def field_size(ring, told):
    """The size of the fields."""
    return words_of(size_by_lots(ring))


def spans_count(ring, told):
    """How many rows of whole spans there are."""
    return str(many_by_sums(ring))


def book_text(ring, told):
    """The text of the book."""
    return str(book_of(ring))


def least_lengths(ring, told):
    """The least lengths that have the book."""
    return words_of(lengths_for(book_of(ring)).lengths)


def names_kept(shelf, told):
    """The names of all rings."""
    return words_of(shelf.names)


def books_alike(shelf, told):
    """Whether two rings have one book, or the first lot of unlike sorts."""
    lot = first_unlike(shelf.ring(told[1]), shelf.ring(told[2]))
    return "same" if lot is None else "unlike " + words_of(lot)


def bars_set(shelf, told):
    """How many bars are set."""
    return "-" if shelf.many is None else str(shelf.many)


def fact_count(shelf, told):
    """How many facts there are."""
    return str(len(shelf.facts))


def fact_text(shelf, told):
    """The text of a fact."""
    want_number(told[1], 0, len(shelf.facts) - 1, "number")
    return str(shelf.facts[told[1]])


def can_keep(shelf, told):
    """Whether some row of lengths keeps the facts."""
    return yes_or_no(some_ring(facts_of(shelf)))


def fact_judged(shelf, told):
    """Whether a fact is sure, never kept, or open."""
    return judged(facts_of(shelf), told[1]).word


OF_RING = {
    "show": ring_text,
    "sort": lot_sort,
    "closes": does_close,
    "clear": is_clear,
    "apart": spans_apart,
    "round": joints_turning,
    "pieces": piece_count,
    "three": bars_long,
    "cells": cell_counts,
    "holes": hole_counts,
    "point": can_align,
    "against": can_oppose,
    "walls": walls_told,
    "slack": slack_told,
    "size": field_size,
    "whole": spans_count,
    "book": book_text,
    "least": least_lengths,
}
OF_SHELF = {
    "names": names_kept,
    "same": books_alike,
    "set": bars_set,
    "facts": fact_count,
    "fact": fact_text,
    "can": can_keep,
    "judge": fact_judged,
}

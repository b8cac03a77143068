"""The short lots of a book, as tuples of ascending lots [15]."""

from ringbars.lots import in_order, lots_less, lots_of


def lots_within(lots):
    """All lots that lie within one of these, these too, in order."""
    found = {lot: True for lot in lots}
    rows = list(found)
    while rows != []:
        rows = list({less: True for lot in rows for less in lots_less(lot) if less not in found})
        for lot in rows:
            found[lot] = True
    return in_order(list(found))


def greatest_of(shorts):
    """Those of all short lots that lie within no other one, in order."""
    # What lies within a short lot is short: so one bar less is enough to ask.
    within = {less: True for lot in shorts for less in lots_less(lot)}
    return tuple([lot for lot in shorts if lot not in within])


def others_of(many, lot):
    """The lot of all other bars."""
    return tuple([bar for bar in range(many) if bar not in lot])


def with_one(lot, bar):
    """The lot with one bar more."""
    return tuple(sorted(lot + (bar,)))


def are_halves(many, shorts):
    """Whether of each lot and the lot of all other bars just one is short."""
    return all([(lot in shorts) != (others_of(many, lot) in shorts) for lot in lots_of(many)])


def shorts_stepped(many, shorts, lot):
    """The short lots behind the step of one of them, in order."""
    return in_order([one for one in shorts if one != lot] + [others_of(many, lot)])


def lots_renumbered(lots, order):
    """The lots renumbered by an order of all bars, in order."""
    place = {bar: at for at, bar in enumerate(order)}
    return in_order([tuple(sorted([place[bar] for bar in lot])) for lot in lots])

"""Which bars can stand along one line, and how shapes show it [11]."""

from ringbars.alongs import strands_shown
from ringbars.cells import MOST_LISTED, want_few
from ringbars.errors import BadLineUp, Twice
from ringbars.lineups import LineUp, with_alone
from ringbars.lots import lots_of, want_closed
from ringbars.papers import Denial, Paper
from ringbars.params import want_as_many, want_bar, want_lot, want_lots, want_number
from ringbars.paths import want_fit
from ringbars.rings import want_ring
from ringbars.shapes import want_shape


class Nets(Paper):
    """The nets of all strands of a line-up, in order."""

    def __init__(self, nets):
        super().__init__("nets", nets)
        self.nets = self.parts[0]


class TooGreat(Denial):
    """The lot of a strand, its net, and the sum of all other nets, which is less."""

    def __init__(self, lot, net, others):
        super().__init__("toogreat", lot, net, others)
        self.lot = self.parts[0]
        self.net = self.parts[1]
        self.others = self.parts[2]


class Signs(Paper):
    """A line-up that some shape has."""

    def __init__(self, lineup):
        super().__init__("signs", lineup)
        self.lineup = self.parts[0]


class NoSigns(Denial):
    """For each choice of signs the lot whose net is too great."""

    def __init__(self, lots):
        super().__init__("nosigns", lots)
        self.lots = self.parts[0]


class Most(Paper):
    """A line-up with as many bars on one line as can be."""

    def __init__(self, lineup):
        super().__init__("most", lineup)
        self.lineup = self.parts[0]


def can_line(ring, lineup):
    """The Nets of the strands, or the TooGreat of the one whose net is too great."""
    want_lined(ring, lineup)
    nets = nets_of(ring, lineup)
    at = too_great(nets)
    if at is None:
        return Nets(nets)
    return TooGreat(lineup.lots[at], nets[at], sum(nets) - nets[at])


def can_point(ring, lot):
    """Whether in some shape the bars of a lot point one way."""
    want_ring(ring, "ring")
    bars = want_lot(lot, len(ring), "lot")
    return ring.closes and ring.sort_of(bars) != "long"


def against(ring, one, other):
    """Whether in some shape two bars point against one another."""
    want_ring(ring, "ring")
    want_bar(one, len(ring))
    want_bar(other, len(ring))
    if one == other:
        raise Twice(other)
    return is_had(ring, LineUp(with_alone(len(ring), [[(one, 1), (other, -1)]])))


def with_signs(ring, lots):
    """The Signs of some lots with the first choice that some shape has, or the NoSigns."""
    lineup, great = first_signs(ring, want_parted(ring, lots))
    return NoSigns(great) if lineup is None else Signs(lineup)


def most_on_one(ring):
    """The Most of the first lot of as many bars as can be along one line."""
    want_closed(ring)
    lots = sorted(lots_of(len(ring))[1:], key=lambda lot: (-len(lot), lot))
    found = None
    while found is None:
        alone = [(bar,) for bar in range(len(ring)) if bar not in lots[0]]
        found = first_signs(ring, [lots[0]] + alone)[0]
        lots = lots[1:]
    return Most(found)


def many_lineups(ring, many):
    """How many line-ups of so many strands some shape has."""
    want_ring(ring, "ring")
    want_number(many, 1, len(ring), "many")
    want_few(ring, MOST_LISTED)
    rows = [strands for strands in all_strands(len(ring)) if len(strands) == many]
    return len([strands for strands in rows if is_had(ring, LineUp(strands))])


def shown_lines(ring, shape):
    """The line-up that the flat triangles of a shape show."""
    want_ring(ring, "ring")
    want_shape(shape, "shape")
    want_fit(ring, (shape,), ("shape",))
    return LineUp(strands_shown(ring, shape))


def nets_of(ring, lineup):
    """The nets of the strands, in order."""
    strands = lineup.strands
    return [abs(sum([ring.lengths[bar] * sign for bar, sign in strand])) for strand in strands]


def too_great(nets):
    """The index of the net that is greater than all others together, or None."""
    most = max(nets)
    return nets.index(most) if 2 * most > sum(nets) else None


def is_had(ring, lineup):
    """Whether some shape of a ring has a line-up."""
    return too_great(nets_of(ring, lineup)) is None


def first_signs(ring, lots):
    """The line-up with the first choice that some shape has, None without one.

    Then the lots whose nets are too great, one for each choice ahead of it.
    """
    great = []
    for strands in choices(lots):
        lineup = LineUp(strands)
        at = too_great(nets_of(ring, lineup))
        if at is None:
            return lineup, great
        great.append(lineup.lots[at])
    return None, great


def choices(lots):
    """The strands of ascending lots with all choices of signs, in order."""
    rows = [{lot[0]: 1 for lot in lots}]
    for bar in sorted([bar for lot in lots for bar in lot[1:]]):
        rows = [with_sign(row, bar, sign) for row in rows for sign in (1, -1)]
    return [[[(bar, row[bar]) for bar in lot] for lot in lots] for row in rows]


def with_sign(row, bar, sign):
    """The signs of some bars with that of one more."""
    longer = {one: row[one] for one in row}
    longer[bar] = sign
    return longer


def all_strands(many):
    """All ways to part so many bars into strands."""
    ways = [(((0, 1),),)]
    for bar in range(1, many):
        ways = [longer for way in ways for longer in with_bar(way, bar)]
    return ways


def with_bar(strands, bar):
    """All ways to put a further bar to the strands, or behind them by itself."""
    ways = [strands + (((bar, 1),),)]
    for at, strand in enumerate(strands):
        rows = [strand + ((bar, sign),) for sign in (1, -1)]
        ways = ways + [strands[:at] + (row,) + strands[at + 1:] for row in rows]
    return ways


def want_lineup(value, part):
    """Raise BadLineUp for what is no line-up."""
    if not isinstance(value, LineUp):
        raise BadLineUp(part)


def want_lined(ring, lineup):
    """Raise the errors of a ring, and a line-up of its bars."""
    want_ring(ring, "ring")
    want_lineup(lineup, "lineup")
    want_as_many(len(ring), lineup.many)


def want_parted(ring, lots):
    """The lots, ascending; raise an error for a ring, and what does not part its bars."""
    want_ring(ring, "ring")
    told = sorted(want_lots(lots, len(ring), "lots"))
    bars = sorted([bar for lot in told for bar in lot])
    if () in told or bars != list(range(len(ring))):
        raise BadLineUp("lots")
    return told

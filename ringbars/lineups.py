"""Line-ups: all bars of a ring parted into strands [11]."""

from ringbars.checks import is_list, is_numbers
from ringbars.errors import BadLineUp, BadText
from ringbars.papers import fixed
from ringbars.params import want_lot, want_number
from ringbars.rings import LEAST_BARS, MOST_BARS
from ringbars.texts import items_of


class LineUp:
    """Strands of bars with signs, in which each bar stands once."""

    def __init__(self, strands):
        if not are_strands(strands):
            raise BadLineUp("strands")
        self.strands = tuple(sorted([as_strand(fixed(strand)) for strand in strands]))
        self.lots = tuple([tuple([bar for bar, sign in strand]) for strand in self.strands])
        self.many = sum([len(lot) for lot in self.lots])

    def __eq__(self, other):
        return isinstance(other, LineUp) and self.strands == other.strands

    def __str__(self):
        return " ".join(lineup_items(self))

    @staticmethod
    def read(text):
        """The line-up whose text this is."""
        return read_lineup(items_of(text))


def pointing(many, lot):
    """The LineUp in which the bars of a lot point one way, each other one alone."""
    want_number(many, LEAST_BARS, MOST_BARS, "many")
    bars = want_lot(lot, many, "lot")
    return LineUp(with_alone(many, [[(bar, 1) for bar in bars]]))


def with_alone(many, strands):
    """The strands that are not empty, and each other bar of so many by itself."""
    told = [bar for strand in strands for bar, sign in strand]
    alone = [[(bar, 1)] for bar in range(many) if bar not in told]
    return [strand for strand in strands if len(strand) > 0] + alone


def are_strands(value):
    """Whether it is a list of lists of pairs in which each bar stands once."""
    if not is_list(value) or not all([is_strand(strand) for strand in value]):
        return False
    bars = sorted([pair[0] for strand in value for pair in strand])
    return LEAST_BARS <= len(bars) <= MOST_BARS and bars == list(range(len(bars)))


def is_strand(value):
    """Whether it is a list of one or more pairs of an integer and a sign."""
    if not is_list(value) or len(value) == 0:
        return False
    return all([is_numbers(pair) and len(pair) == 2 and pair[1] in (1, -1) for pair in value])


def as_strand(pairs):
    """The pairs ascending by bars, all signs turned so that the first one is 1."""
    rows = sorted(pairs)
    return tuple([(bar, sign * rows[0][1]) for bar, sign in rows])


def lineup_items(lineup):
    """The items of the text of a line-up."""
    rows = [["/"] + [item_of(bar, sign) for bar, sign in strand] for strand in lineup.strands]
    return [item for row in rows for item in row][1:]


def item_of(bar, sign):
    """A bar with its sign ahead of it."""
    return ("+" if sign == 1 else "-") + str(bar)


def read_lineup(items):
    """The line-up whose text has these items."""
    strands = []
    left = list(range(MOST_BARS))
    starts = True
    for at, item in enumerate(items):
        if item == "/" and not starts and left != []:
            starts = True
            continue
        told = [pair for pair in pairs_next(strands, left, starts) if item_of(pair[0], pair[1]) == item]
        if told == []:
            raise BadText(0, at)
        strands = strands + [told] if starts else strands[:-1] + [strands[-1] + told]
        left = [bar for bar in left if bar != told[0][0]]
        starts = False
    many = MOST_BARS - len(left)
    if starts or many < LEAST_BARS or left != list(range(many, MOST_BARS)):
        raise BadText(0, len(items))
    return LineUp(strands)


def pairs_next(strands, left, starts):
    """The pairs that can stand next, starting a strand or going on with the last one."""
    if starts:
        return [(left[0], 1)]
    last = strands[-1][-1][0]
    return [(bar, sign) for bar in left for sign in (1, -1) if bar > last]

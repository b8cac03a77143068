"""The errors of the package.

No class passes its fields on to ValueError: they may be any values, and some
of them, as very great integers, cannot be written into a message.
"""


class RingError(ValueError):
    """The base of all errors of the package."""


class BadRing(RingError):
    """A value is no ring, or makes none."""

    def __init__(self, part):
        self.part = part


class BadLot(RingError):
    """A value is no lot."""

    def __init__(self, part):
        self.part = part


class BadCutting(RingError):
    """A value is no cutting, or makes none."""

    def __init__(self, part):
        self.part = part


class BadShape(RingError):
    """A value is no shape, makes none, or does not fit its ring."""

    def __init__(self, part):
        self.part = part


class BadRound(RingError):
    """A value is no round."""

    def __init__(self, part):
        self.part = part


class BadCell(RingError):
    """A value is no cell."""

    def __init__(self, part):
        self.part = part


class BadLineUp(RingError):
    """A value is no line-up, or makes none."""

    def __init__(self, part):
        self.part = part


class BadSpans(RingError):
    """A value is no row of whole spans."""

    def __init__(self, part):
        self.part = part


class BadTies(RingError):
    """A value is no row of ties."""

    def __init__(self, part):
        self.part = part


class BadBook(RingError):
    """A value is no book, or makes none."""

    def __init__(self, part):
        self.part = part


class BadFact(RingError):
    """A value is no fact, or makes none."""

    def __init__(self, part):
        self.part = part


class BadWeb(RingError):
    """A value is no web, or makes none."""

    def __init__(self, part):
        self.part = part


class BadNumber(RingError):
    """A value is no integer within its bounds, or no such numbers."""

    def __init__(self, part):
        self.part = part


class BadPaper(RingError):
    """A value is no paper of the class that is asked for."""

    def __init__(self, part):
        self.part = part


class BadDesk(RingError):
    """A value is no desk, or makes none."""

    def __init__(self, part):
        self.part = part


class Misfit(RingError):
    """Values, each right alone, do not fit together."""

    def __init__(self, part):
        self.part = part


class Missing(RingError):
    """A value is none of those that are here; raised nowhere itself."""

    def __init__(self, value):
        self.value = value


class NoBar(Missing):
    """A value is no bar here."""


class NoCorner(Missing):
    """A value is no corner here."""


class NoDiagonal(Missing):
    """A value is no diagonal here."""


class NoTriangle(Missing):
    """A value is no triangle here."""


class NoPin(Missing):
    """A value is no pin here."""


class NoName(Missing):
    """A value is no name under which something is kept."""


class Twice(RingError):
    """A value stands there already."""

    def __init__(self, value):
        self.value = value


class TooLong(RingError):
    """A ring does not close: this bar alone is long."""

    def __init__(self, bar):
        self.bar = bar


class Level(RingError):
    """A ring is not clear: this lot is level."""

    def __init__(self, lot):
        self.lot = lot


class Impossible(RingError):
    """What is asked cannot be; the paper is a denial that shows it."""

    def __init__(self, paper):
        self.paper = paper


class TooMany(RingError):
    """There are more of these than most."""

    def __init__(self, what, most):
        self.what = what
        self.most = most


class Nothing(RingError):
    """There is nothing to do this with."""


class BadText(RingError):
    """An item of a text cannot stand, or is missing."""

    def __init__(self, line, item):
        self.line = line
        self.item = item


class BadLine(RingError):
    """A line of a desk raised an error."""

    def __init__(self, line, error):
        self.line = line
        self.error = error

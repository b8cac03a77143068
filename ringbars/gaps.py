"""By how much lots are longer than all other bars, for bars of any lengths [4], [12]."""


class Bars:
    """Bars whose lots are of the sorts that those of a ring are.

    Rings beside walls have lengths that Ring does not let; they stand as this.
    """

    def __init__(self, lengths):
        self.lengths = tuple(lengths)

    def __len__(self):
        return len(self.lengths)

    def sort_of(self, lot):
        """The sort of a lot: short, long or level."""
        return sort_by(excess_of(self.lengths, lot))


def excess_of(lengths, lot):
    """By how much a lot is longer than all other bars, below 0 if it is less long."""
    return 2 * sum([lengths[bar] for bar in lot]) - sum(lengths)


def sort_by(excess):
    """The sort of a lot that is longer than all other bars by so much."""
    if excess == 0:
        return "level"
    return "short" if excess < 0 else "long"

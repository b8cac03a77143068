"""Cuttings of a ring into triangles, and flips between them [5]."""

from ringbars.checks import first_twice, is_list, is_numbers
from ringbars.errors import BadCutting, BadText, NoDiagonal, NoTriangle, Twice
from ringbars.params import want_as_many, want_corner, want_number
from ringbars.rings import LEAST_BARS, MOST_BARS
from ringbars.texts import items_of, number_at, want_end, want_word
from ringbars.walks import fewest_steps


class Cutting:
    """As many diagonals as can be, no two of which cross."""

    def __init__(self, many, diagonals):
        want_number(many, LEAST_BARS, MOST_BARS, "many")
        if not are_diagonals(many, diagonals):
            raise BadCutting("diagonals")
        rows = [tuple(diagonal) for diagonal in diagonals]
        twice = first_twice(rows)
        if twice is not None:
            raise Twice(twice)
        self.many = many
        self.diagonals = tuple(sorted(rows))
        self.triangles = triangles_by(many, self.diagonals)

    def __eq__(self, other):
        if not isinstance(other, Cutting):
            return False
        return self.many == other.many and self.diagonals == other.diagonals

    def __str__(self):
        return " ".join(cutting_items(self))

    def sides(self, triangle):
        """The three sides of a triangle, ascending."""
        want_triangle(self, triangle)
        return sides_of(triangle)

    def beside(self, diagonal):
        """The two triangles of which a diagonal is a side, in order."""
        want_diagonal(self, diagonal)
        both = tuple(diagonal)
        return tuple([three for three in self.triangles if both in sides_of(three)])

    def flipped(self, diagonal):
        """The cutting with the only other diagonal in the place of this one."""
        ends = [corner for three in self.beside(diagonal) for corner in three]
        other = tuple(sorted([corner for corner in ends if corner not in diagonal]))
        stay = [one for one in self.diagonals if one != tuple(diagonal)]
        return Cutting(self.many, stay + [other])

    def turned(self, number):
        """The cutting with this corner told as corner 0, the next one as 1."""
        want_corner(number, self.many)
        rows = [[(corner - number) % self.many for corner in one] for one in self.diagonals]
        return Cutting(self.many, [tuple(sorted(row)) for row in rows])

    @staticmethod
    def read(text):
        """The cutting whose text this is."""
        items = items_of(text)
        cutting, at = read_cutting(items, 0)
        want_end(items, at)
        return cutting

    @staticmethod
    def fan(many, corner):
        """The cutting whose diagonals all have this corner."""
        want_number(many, LEAST_BARS, MOST_BARS, "many")
        want_corner(corner, many)
        pairs = [tuple(sorted((corner, other))) for other in range(many)]
        return Cutting(many, [pair for pair in pairs if is_diagonal(many, pair)])


def cuttings(many):
    """All cuttings of so many bars, ascending by their diagonals."""
    want_number(many, LEAST_BARS, MOST_BARS, "many")
    rows = sorted([tuple(sorted(row)) for row in cut_between(0, many - 1)])
    return tuple([Cutting(many, row) for row in rows])


def cutting_at(many, number):
    """The cutting with this number among all of so many bars."""
    found = cuttings(many)
    want_number(number, 0, len(found) - 1, "number")
    return found[number]


def flips_between(one, other):
    """Cuttings from one to other, each next one flipped, as few as can be."""
    want_cutting(one, "one")
    want_cutting(other, "other")
    want_as_many(one.many, other.many)
    many = one.many
    rows = fewest_steps(one.diagonals, other.diagonals, lambda row: rows_flipped(many, row))
    return tuple([Cutting(many, row) for row in rows])


def rows_flipped(many, diagonals):
    """The diagonals of all cuttings that come of one by one flip."""
    cutting = Cutting(many, diagonals)
    return [cutting.flipped(diagonal).diagonals for diagonal in cutting.diagonals]


def is_diagonal(many, value):
    """Whether it is a pair of corners, ascending, that no bar joins."""
    if not is_numbers(value) or len(value) != 2:
        return False
    first, second = value
    return 0 <= first and first + 1 < second < many and second - first < many - 1


def are_diagonals(many, value):
    """Whether it is a list of diagonals for a cutting, perhaps some of them twice."""
    if not is_list(value) or len(value) != many - 3:
        return False
    if not all([is_diagonal(many, one) for one in value]):
        return False
    return not any([cross(one, other) for one in value for other in value])


def cross(one, other):
    """Whether two diagonals cross."""
    first, second = one
    third, fourth = other
    return first < third < second < fourth or third < first < fourth < second


def sides_of(triangle):
    """The three sides of a triangle, ascending."""
    first, second, third = triangle
    return (first, second), (first, third), (second, third)


def triangles_by(many, diagonals):
    """All threes of corners each two of which a bar or a diagonal joins."""
    bars = [(corner, corner + 1) for corner in range(many - 1)]
    joined = bars + [(0, many - 1)] + list(diagonals)
    threes = [pair + (third,) for pair in joined for third in range(pair[1] + 1, many)]
    return tuple(sorted([three for three in threes if are_joined(three, joined)]))


def are_joined(triangle, joined):
    """Whether all sides of a triangle are among the joined pairs."""
    return all([side in joined for side in sides_of(triangle)])


def cut_between(first, last):
    """All rows of diagonals that cut the corners from first to last into triangles.

    The pair of first and last itself stands in none of them.
    """
    if last - first < 2:
        return [()]
    rows = []
    for middle in range(first + 1, last):
        sides = [pair for pair in ((first, middle), (middle, last)) if pair[1] - pair[0] > 1]
        for row in cut_between(first, middle):
            rows = rows + [row + more + tuple(sides) for more in cut_between(middle, last)]
    return rows


def has_diagonal(cutting, value):
    """Whether any value is a diagonal of a cutting."""
    return is_numbers(value) and tuple(value) in cutting.diagonals


def has_triangle(cutting, value):
    """Whether any value is a triangle of a cutting."""
    return is_numbers(value) and tuple(value) in cutting.triangles


def want_diagonal(cutting, value):
    """Raise NoDiagonal for what is no diagonal of a cutting."""
    if not has_diagonal(cutting, value):
        raise NoDiagonal(value)


def want_triangle(cutting, value):
    """Raise NoTriangle for what is no triangle of a cutting."""
    if not has_triangle(cutting, value):
        raise NoTriangle(value)


def want_cutting(value, part):
    """Raise BadCutting for what is no cutting."""
    if not isinstance(value, Cutting):
        raise BadCutting(part)


def cutting_items(cutting):
    """The items of the text of a cutting."""
    pairs = [["/", str(first), str(second)] for first, second in cutting.diagonals]
    behind = [item for pair in pairs for item in pair]
    return [str(cutting.many), ":"] + behind[1:]


def read_cutting(items, at):
    """The cutting whose text begins with the item there, and the index behind it."""
    many = number_at(items, at, LEAST_BARS, MOST_BARS)
    want_word(items, at + 1, ":")
    at += 2
    rows = []
    for number in range(many - 3):
        if number > 0:
            want_word(items, at, "/")
            at += 1
        rows.append(read_diagonal(items, at, many, rows))
        at += 2
    return Cutting(many, rows), at


def read_diagonal(items, at, many, ahead):
    """The diagonal whose first corner is the item there, behind those ahead."""
    least = ahead[-1][0] if ahead else 0
    pair = number_at(items, at, least, many - 1), number_at(items, at + 1, None, None)
    if not is_diagonal(many, pair) or any([cross(pair, one) for one in ahead]):
        raise BadText(0, at + 1)
    if ahead and pair <= ahead[-1]:
        raise BadText(0, at + 1)
    return pair

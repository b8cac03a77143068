"""Adding by two: a row is an integer, and its bits stand for what is in it.

A basis is a dict of rows by their pivots, each a bit that no other row of it
has; so in whatever order the pivots are cleared, none comes back.
"""


def row_of(numbers):
    """The row that has these bits, no two of them equal."""
    return sum([1 << number for number in numbers])


def bits_of(row):
    """The bits of a row, ascending."""
    return [bit for bit in range(row.bit_length()) if row >> bit & 1]


def cleared(row, basis):
    """The row without the pivots of a basis: rows of it are added."""
    for pivot in basis:
        if row >> pivot & 1:
            row = row ^ basis[pivot]
    return row


def basis_of(rows, width):
    """A basis of what rows of so many bits span, and of what adds up to nothing.

    Each row of both has the bits of the rows that are added in it, too, behind
    its own: bit width + k for row k. Those of the second one have no others.
    """
    basis = {}
    empty = []
    for at, row in enumerate(rows):
        row = cleared(row | 1 << (width + at), basis)
        own = row & ((1 << width) - 1)
        if own == 0:
            empty.append(row)
            continue
        pivot = own.bit_length() - 1
        basis = {one: cleared(basis[one], {pivot: row}) for one in basis}
        basis[pivot] = row
    return basis, empty


def screen_of(basis, bit):
    """The row with this bit, no pivot, that has an even number in common with each.

    Of all bits that are no pivots it has this one alone.
    """
    return row_of([bit] + [pivot for pivot in basis if basis[pivot] >> bit & 1])

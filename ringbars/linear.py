"""Sums of unknowns, reckoned with in integers alone.

Rows are lists of integers. No step leaves fractions: what is divided by was
multiplied in one step ahead.
"""


def solved(rows):
    """The numbers that the rows ask for, as integers and what they are divided by.

    Each row has a count for each unknown, then the sum; there are as many rows
    as unknowns. None if not just one row of numbers does.
    """
    now = [list(row) for row in rows]
    by = 1
    for at in range(len(now)):
        places = [place for place in range(at, len(now)) if now[place][at] != 0]
        if places == []:
            return None
        now[at], now[places[0]] = now[places[0]], now[at]
        now = [row if place == at else cleared_at(row, now[at], at, by) for place, row in enumerate(now)]
        by = now[at][at]
    sign = 1 if by > 0 else -1
    return [sign * row[-1] for row in now], sign * by


def determinant(rows):
    """The determinant of as many rows as they have numbers."""
    now = [list(row) for row in rows]
    by, sign = 1, 1
    for at in range(len(now)):
        places = [place for place in range(at, len(now)) if now[place][at] != 0]
        if places == []:
            return 0
        if places[0] != at:
            sign = -sign
        now[at], now[places[0]] = now[places[0]], now[at]
        now = now[:at + 1] + [cleared_at(row, now[at], at, by) for row in now[at + 1:]]
        by = now[at][at]
    return sign * by


def cleared_at(row, head, at, by):
    """The row with 0 at a place, taken times what head has there, divided by by."""
    return [(head[at] * row[place] - row[at] * head[place]) // by for place in range(len(row))]

"""Searching the fewest steps from one thing to another one."""


def fewest_steps(first, last, near):
    """A tuple from first to last, each next one near the one ahead.

    Things are integers, strings, or tuples of these; near(one) lists the
    things one step away. Last is within reach.
    """
    rows = [(first,)]
    seen = {first: True}
    while last not in seen:
        rows = rows_longer(rows, seen, near)
    return [row for row in rows if row[-1] == last][0]


def rows_longer(rows, seen, near):
    """The rows with one more thing each, of those not seen till now."""
    longer = []
    for row in rows:
        for one in near(row[-1]):
            if one not in seen:
                seen[one] = True
                longer.append(row + (one,))
    return longer

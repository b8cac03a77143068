"""Which pins bars join, and whether four of them make a knot [17].

What is joined is a dict: for each pin the list of all others that it is joined to.
"""


def joined_by(pairs):
    """What is joined by bars between these pairs of pins."""
    near = {pin: [] for pair in pairs for pin in pair}
    for one, other in pairs:
        if other not in near[one]:
            near[one].append(other)
            near[other].append(one)
    return near


def has_knot(near):
    """Whether four pins make a knot: then not all pins can be taken away."""
    left = near
    while len(left) > 0:
        pins = easy_pins(left)
        if pins == []:
            return True
        left = taken_away(left, pins[0])
    return False


def easy_pins(near):
    """The pins that are joined to two others at most, ascending."""
    return sorted([pin for pin in near if len(near[pin]) <= 2])


def taken_away(near, pin):
    """What is joined if a pin is taken away, and a bar is put between its two others."""
    ends = near[pin]
    left = {}
    for one in near:
        if one != pin:
            others = [other for other in near[one] if other != pin]
            more = [end for end in ends if one in ends and end != one and end not in others]
            left[one] = others + more
    return left

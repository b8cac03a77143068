"""Answers found by trying all, for small rings; nothing here uses the package."""

from itertools import combinations, permutations, product


def subsets(many):
    """All lots of so many bars, those of fewer bars first."""
    return [lot for size in range(many + 1) for lot in combinations(range(many), size)]


def sort_of(lengths, lot):
    """The sort of a lot."""
    inside = sum(lengths[bar] for bar in lot)
    outside = sum(lengths[bar] for bar in range(len(lengths)) if bar not in lot)
    if inside == outside:
        return "level"
    return "short" if inside < outside else "long"


def lots_by(lengths, sort):
    """All lots of one sort."""
    return [lot for lot in subsets(len(lengths)) if sort_of(lengths, lot) == sort]


def crossing(one, other):
    """Whether just one end of the other lies strictly between the ends of one."""
    inside = [one[0] < corner < one[1] for corner in other]
    touching = set(one) & set(other)
    return not touching and inside[0] != inside[1]


def all_diagonals(many):
    """All diagonals of a ring of so many bars."""
    return [pair for pair in combinations(range(many), 2)
            if pair[1] - pair[0] > 1 and pair != (0, many - 1)]


def all_cuttings(many):
    """The rows of diagonals of all cuttings, ascending."""
    return [row for row in combinations(all_diagonals(many), many - 3)
            if not any(crossing(one, other) for one, other in combinations(row, 2))]


def sides(many, diagonals):
    """All pairs of corners that a bar or a diagonal joins."""
    bars = [tuple(sorted((bar, (bar + 1) % many))) for bar in range(many)]
    return sorted(set(bars) | set(diagonals))


def triangles(many, diagonals):
    """All triangles of a cutting."""
    joined = sides(many, diagonals)
    return [three for three in combinations(range(many), 3)
            if all(pair in joined for pair in combinations(three, 2))]


def span_of(lengths, diagonals, spans, pair, scale=1):
    """The span of a bar or a diagonal."""
    if pair in diagonals:
        return spans[diagonals.index(pair)]
    bar = pair[0] if pair[1] - pair[0] == 1 else pair[1]
    return scale * lengths[bar]


def slack(lengths, diagonals, spans, three, scale=1):
    """How much less the greatest side of a triangle is than both others."""
    told = sorted(span_of(lengths, diagonals, spans, pair, scale)
                  for pair in combinations(three, 2))
    return told[0] + told[1] - told[2]


def is_let(lengths, diagonals, spans, scale=1):
    """Whether spans are let."""
    threes = triangles(len(lengths), diagonals)
    return all(slack(lengths, diagonals, spans, three, scale) >= 0 for three in threes)


def all_spans(lengths, diagonals):
    """All rows of whole spans that are let, at scale 1."""
    diagonals = list(diagonals)
    rows = [()]
    many = len(lengths)
    threes = triangles(many, diagonals)
    for number in range(len(diagonals)):
        known = set(sides(many, diagonals)) - set(diagonals[number + 1:])
        ready = [three for three in threes if set(combinations(three, 2)) <= known]
        longer = [row + (span,) for row in rows for span in range(sum(lengths) + 1)]
        rows = [row for row in longer
                if all(slack(lengths, diagonals, row, three) >= 0 for three in ready)]
    if not diagonals:
        rows = [row for row in rows if is_let(lengths, diagonals, row)]
    return rows


def within(row, diagonals, bounds):
    """Whether a row of spans is within bounds."""
    for diagonal, low, high in bounds:
        span = row[list(diagonals).index(tuple(diagonal))]
        if low is not None and span < low or high is not None and span > high:
            return False
    return True


def all_hands(lengths, diagonals, spans):
    """All rows of hands that fit spans at scale 1."""
    threes = triangles(len(lengths), diagonals)
    choices = [(0,) if slack(lengths, list(diagonals), spans, three) == 0 else (1, -1)
               for three in threes]
    return list(product(*choices))


def arc(many, one, other):
    """The bars of the arc from one corner to another one."""
    bars = []
    while one != other:
        bars.append(one)
        one = (one + 1) % many
    return tuple(bars)


def arm_spans(lengths):
    """All whole spans of the ends of an arm, bar by bar."""
    spans = {lengths[0]}
    for length in lengths[1:]:
        spans = {end for span in spans for end in range(abs(span - length), span + length + 1)}
    return spans


def all_cells(lengths, size):
    """All cells of so many lots, ascending, by trying each place for each bar."""
    found = set()
    for places in product(range(size), repeat=len(lengths)):
        lots = tuple(tuple(bar for bar in range(len(lengths)) if places[bar] == place)
                     for place in range(size))
        if places[0] == 0 and all(lots) and all(sort_of(lengths, lot) == "short" for lot in lots):
            found.add(lots)
    return sorted(found)


def long_three(lengths):
    """The three bars that are two by two long, or None."""
    for three in combinations(range(len(lengths)), 3):
        if all(sort_of(lengths, two) == "long" for two in combinations(three, 2)):
            return three
    return None


def all_rounds(many):
    """All rounds of so many bars, ascending."""
    return [(0,) + rest for rest in permutations(range(1, many))]


def near_rounds(lengths, one):
    """The rounds one exchange away."""
    found = set()
    for at in range(len(one)):
        pair = one[at], one[(at + 1) % len(one)]
        if sort_of(lengths, pair) == "short":
            swap = {pair[0]: pair[1], pair[1]: pair[0]}
            row = [swap.get(bar, bar) for bar in one]
            first = row.index(0)
            found.add(tuple(row[first:] + row[:first]))
    return sorted(found)


def steps_from(lengths, first):
    """How many exchanges lead at least from one round to each that can be reached."""
    steps = {first: 0}
    queue = [first]
    for one in queue:
        for near in near_rounds(lengths, one):
            if near not in steps:
                steps[near] = steps[one] + 1
                queue.append(near)
    return steps


def put_together(cell, at):
    """The lots with one of them and the next one put together, bar 0 ahead."""
    behind = (at + 1) % len(cell)
    rest = [lot for number, lot in enumerate(cell) if number not in (at, behind)]
    both = tuple(sorted(cell[at] + cell[behind]))
    return (both, *rest) if behind == 0 else (*rest[:at], both, *rest[at:])


def rim(lengths, cell):
    """The rim of a cell, ascending."""
    found = {put_together(cell, at) for at in range(len(cell))
             if sort_of(lengths, cell[at] + cell[(at + 1) % len(cell)]) == "short"}
    return sorted(found)


def by_dimension(lengths):
    """All cells, a list for each dimension."""
    return [all_cells(lengths, size) for size in range(3, len(lengths) + 1)]


def odd_ones(heaps):
    """The cells that are in an odd number of heaps."""
    found = set()
    for heap in heaps:
        found ^= set(heap)
    return found


def rank(rows):
    """How many of the rows, sets added by two, are free: by plain elimination."""
    kept = []
    for row in map(set, rows):
        for first, other in kept:
            if first in row:
                row = row ^ other
        if row:
            kept.append((min(row), row))
    return len(kept)


def holes(many, ranks):
    """The holes by the numbers of the cells and the ranks."""
    both = [0, *ranks, 0]
    return tuple(many[at] - both[at] - both[at + 1] for at in range(len(many)))


def partitions(bars):
    """All ways to part some bars into lots, each lot ascending."""
    if not bars:
        return [[]]
    first, rest = bars[0], bars[1:]
    found = []
    for lot in subsets(len(rest)):
        inside = (first,) + tuple(rest[at] for at in lot)
        left = [bar for bar in rest if bar not in inside]
        found += [[inside] + way for way in partitions(left)]
    return found


def nets(lengths, strands):
    """The nets of strands."""
    return [abs(sum(lengths[bar] * sign for bar, sign in strand)) for strand in strands]


def greatest_net(lengths, strands):
    """The index of the net that is greater than all others together, or None."""
    told = nets(lengths, strands)
    for at, net in enumerate(told):
        if net > sum(told) - net:
            return at
    return None


def all_choices(lots):
    """The strands of lots with all choices of signs, in order."""
    lots = sorted(lots)
    free = sorted(bar for lot in lots for bar in lot[1:])
    found = []
    for signs in product((1, -1), repeat=len(free)):
        told = dict(zip(free, signs))
        found.append(tuple(tuple((bar, told.get(bar, 1)) for bar in lot) for lot in lots))
    return found


def lineups(lengths, size):
    """All line-ups of so many strands that some shape has."""
    return [strands for lots in partitions(list(range(len(lengths)))) if len(lots) == size
            for strands in all_choices(lots) if greatest_net(lengths, strands) is None]

"""What legs, tables and chains are, by the document's own words, and all of them that there are, by trying.

Nothing here is taken from the program.
"""

from fractions import Fraction
from itertools import combinations

# All lengths alike, few that differ, lengths whose sizes are fractions (3, 4, 5 and their like), and lengths far apart.
LENGTHS = (
    ((1, 1),),
    ((1, 1), (2, 1)),
    ((1, 2), (1, 1), (3, 2), (2, 1)),
    ((3, 1), (4, 1), (5, 1), (12, 1)),
    ((1, 2), (500, 1), (999, 2), (7, 1), (21, 2)),
)


def numbers(seed):
    """Numbers without end that look unordered, always the same ones for a seed."""
    state = seed
    while True:
        state = (state * 6364136223846793005 + 1442695040888963407) % 2 ** 64
        yield state >> 33


def pick(turn, some):
    """One of some values, by the next of the numbers."""
    return some[next(turn) % len(some)]


def fit(one, other):
    return set(one) <= set(other) or set(other) <= set(one) or not set(one) & set(other)


def all_lots(many):
    return [lot for size in range(2, many) for lot in combinations(range(1, many + 1), size)]


def some_shape(turn, many, roads):
    """A shape with so many lots, or with as many as there is room for."""
    shape = []
    free = all_lots(many)
    while free and len(shape) < roads:
        shape.append(pick(turn, free))
        free = [lot for lot in free if lot not in shape and all(fit(lot, own) for own in shape)]
    return tuple(sorted(shape))


def with_lengths(turn, shape, lengths):
    return tuple((lot, pick(turn, lengths)) for lot in shape)


def value(fraction):
    return Fraction(fraction[0], fraction[1])


def size_square(roads):
    return sum((value(length) ** 2 for _, length in roads), Fraction(0))


def is_leg(one, other):
    """Whether each lot of either side doesn't fit some lot of the other one, and both have some."""
    for side, against in ((one, other), (other, one)):
        if not side or not all(any(not fit(lot, by) for by, _ in against) for lot, _ in side):
            return False
    return True


def parted(side):
    """All pairs of sides into which a side can be parted."""
    out = []
    for count in range(1, len(side)):
        for first in combinations(side, count):
            out.append((first, tuple(road for road in side if road not in first)))
    return out


def is_parting(parting, one, other):
    """Whether a value is a parting of a leg, roads in the order of its sides."""
    (gone, ahead), (left, later) = parting
    if (gone, left) not in parted(one) or (ahead, later) not in parted(other):
        return False
    return all(fit(lot, by) for lot, _ in left for by, _ in ahead)


def is_cheaper(parting):
    (gone, ahead), (left, later) = parting
    return size_square(gone) / size_square(ahead) < size_square(left) / size_square(later)


def all_partings(one, other):
    pairs = [((gone, ahead), (left, later)) for gone, left in parted(one) for ahead, later in parted(other)]
    return [pair for pair in pairs if is_parting(pair, one, other)]


def has_cheaper(one, other):
    return any(is_cheaper(parting) for parting in all_partings(one, other))


def table_is_right(table, one, other):
    """Whether a tuple of triples of the right kinds is a table of a leg."""
    if list(table) != sorted(table) or len({row[:2] for row in table}) != len(table):
        return False
    first, second = dict(one), dict(other)
    if any(lot not in first or to not in second or fit(lot, to) or share[0] <= 0 for lot, to, share in table):
        return False
    if any((value(share).numerator, value(share).denominator) != share for _, _, share in table):
        return False
    for side, at in ((one, 0), (other, 1)):
        for lot, length in side:
            told = sum((value(row[2]) for row in table if row[at] == lot), Fraction(0))
            if told != value(length) ** 2 / size_square(side):
                return False
    return True


def unshared_roads(one, other):
    """The roads of two trees, each a pair (many, roads), that they don't share."""
    gone = tuple(road for road in one[1] if any(not fit(road[0], by) for by, _ in other[1]))
    come = tuple(road for road in other[1] if any(not fit(road[0], by) for by, _ in one[1]))
    return gone, come


def rows_of_legs(gone, come):
    """All rows of pairs of sides that all roads make, such that what is left always fits what has come."""
    if not gone and not come:
        return [()]
    found = []
    for first, left in parted(gone) + [(gone, ())]:
        for second, later in parted(come) + [(come, ())]:
            if first and second and all(fit(lot, by) for lot, _ in left for by, _ in second):
                found.extend([((first, second),) + row for row in rows_of_legs(left, later)])
    return found


def quotient(leg):
    return size_square(leg[0]) / size_square(leg[1])


def is_chain(row):
    """Whether a row of pairs of sides is the chain: its quotients rise, and each is a leg without a cheaper parting."""
    quotients = [quotient(leg) for leg in row]
    if any(one >= other for one, other in zip(quotients, quotients[1:])):
        return False
    return all(is_leg(*leg) and not has_cheaper(*leg) for leg in row)


def lots_in(row):
    return tuple((tuple(lot for lot, _ in first), tuple(lot for lot, _ in second)) for first, second in row)


def all_chains(one, other):
    """All chains between two trees; there should be one."""
    return [lots_in(row) for row in rows_of_legs(*unshared_roads(one, other)) if is_chain(row)]


def some_legs(many, count, seed):
    """So many legs with so many tips, of all numbers of roads, with all kinds of lengths."""
    turn = numbers(seed)
    out = []
    while len(out) < count:
        shapes = [some_shape(turn, many, 1 + next(turn) % (many - 2)) for _ in range(2)]
        lengths = pick(turn, LENGTHS)
        one, other = [with_lengths(turn, shape, lengths) for shape in shapes]
        one, other = unshared_roads((many, one), (many, other))
        if one:
            out.append((one, other))
    return out


def some_pairs(many, count, seed):
    """So many pairs of trees, with all numbers of roads, some of which both have, with all kinds of lengths."""
    turn = numbers(seed)
    rooms = list(range(many - 1)) + [many - 2] * many
    out = []
    while len(out) < count:
        lengths = pick(turn, LENGTHS)
        one, other = [some_shape(turn, many, pick(turn, rooms)) for _ in range(2)]
        if one and next(turn) % 3 == 0:
            # One road of the first is put into the other in place of all that doesn't fit it.
            own = pick(turn, one)
            other = tuple(sorted([own] + [lot for lot in other if lot != own and fit(lot, own)]))
        out.append(tuple((many, with_lengths(turn, shape, lengths)) for shape in (one, other)))
    return out

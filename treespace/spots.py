"""Spots: where the legs of the way between two trees are, and which roads there are at a share of it."""

from treespace.checks import is_fraction
from treespace.errors import BadFraction
from treespace.sides import quarters, quotient, size
from treespace.sums import fraction_plus, fraction_sum, fraction_times, reduced, sum_plus, sum_sign, sum_times
from treespace.ways import chain, check_trees, common, way_legs

SHARE_MOST_LOW = 100


def is_share(value):
    """Whether a value is a share at which one may be on a way."""
    return is_fraction(value) and value[1] <= SHARE_MOST_LOW and 0 <= value[0] <= value[1]


def place(first, second):
    """The share, a sum, of the place of a leg: the size of its first side by both sizes together."""
    gap = quarters(first) - quarters(second)
    if gap == 0:
        return fraction_sum((1, 2))
    # Top and low are multiplied by the first size less the second one, so that the low is the gap, without roots.
    both = sum_times(size(first), size(second))
    top = sum_plus(fraction_sum(reduced(quarters(first), 4)), sum_times(fraction_sum((-1, 1)), both))
    return sum_times(fraction_sum(reduced(4 if gap > 0 else -4, abs(gap))), top)


def shared_spots(one, other, share, rest):
    """The pairs (lot, sum) of the shared roads that are there at a share, the rest being 1 less the share."""
    found = []
    for lot, first, second in common(one, other):
        length = fraction_plus(fraction_times(first, rest), fraction_times(second, share))
        if length[0] > 0:
            found.append((lot, fraction_sum(length)))
    return found


def side_spots(side, against, gone, left):
    """The pairs (lot, sum) of the roads of a side of a leg that are there.

    Gone is how far one is, as a share of the way, from the tree that has the side, and left how far from the other one.
    A leg is gone like a straight line whose length is both sizes together: the side's size comes first, and its roads
    are there until that much is gone.
    """
    factor = sum_plus(fraction_sum(left), sum_times(fraction_sum((-gone[0], gone[1])), quotient(against, side)))
    if sum_sign(factor) <= 0:
        return []
    return [(lot, sum_times(fraction_sum(length), factor)) for lot, length in side]


def breaks(one, other):
    """The shares, sums, at which one is at the places of the legs, in turn."""
    check_trees(one, other)
    return tuple([place(first, second) for first, second in way_legs(one, other)])


def spot(one, other, share):
    """The pairs (lot, sum) of all roads that are there at a share of the way, lots rising."""
    check_trees(one, other)
    if not is_share(share):
        raise BadFraction()
    top, low = share
    rest = low - top, low
    found = shared_spots(one, other, share, rest)
    for first, second in way_legs(one, other):
        found.extend(side_spots(first, second, share, rest))
        found.extend(side_spots(second, first, rest, share))
    return tuple(sorted(found))


def stretches(one, other):
    """The shapes that the way has between its ends and the places of the legs, in turn."""
    legs = chain(one, other)
    same = [lot for lot, _, _ in common(one, other)]
    found = []
    for at in range(len(legs) + 1):
        come = [lot for _, second in legs[:at] for lot in second]
        left = [lot for first, _ in legs[at:] for lot in first]
        found.append(tuple(sorted(same + come + left)))
    return tuple(found)


def past_star(one, other):
    """Whether there are, somewhere on the way, its ends counted, no roads at all."""
    check_trees(one, other)
    if not one[1] or not other[1]:
        return True
    # Between the ends a shared road is always there, and so are, at the place of a leg, the roads of all other legs.
    return not common(one, other) and len(way_legs(one, other)) == 1

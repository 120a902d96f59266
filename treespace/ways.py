"""The way between two trees: what they share, its legs, and its length."""

from treespace.errors import BadTree
from treespace.forms import is_tree
from treespace.sides import crossing, doubled, groups, lots_of, quarters, size, without
from treespace.sums import fraction_sum, reduced, sum_plus, sum_times


def check_trees(one, other):
    """Raise BadTree for what are not two trees with equally many tips."""
    if not is_tree(one) or not is_tree(other) or one[0] != other[0]:
        raise BadTree()


def apart(one, other):
    """The pair of the roads of the first tree, and those of the other one, that are not shared."""
    return crossing(one[1], other[1]), crossing(other[1], one[1])


def common(one, other):
    """The triples (lot, length, length) of all lots that two trees share, lots rising."""
    gone, come = apart(one, other)
    # A lot that both have is no exception: it fits all lots of both.
    first = dict(without(one[1], gone))
    second = dict(without(other[1], come))
    lots = sorted(list(first) + [lot for lot in second if lot not in first])
    return tuple([(lot, first.get(lot, (0, 1)), second.get(lot, (0, 1))) for lot in lots])


def first_leg(gone, come):
    """The first leg by which some roads go and others come: of the least size that goes by the size that comes."""
    best = None
    for second in groups(come):
        first = crossing(gone, second)
        # All groups with the least quotient have it together, too, and are one leg. Together they are the largest group
        # with it, and so the last one.
        if best is None or quarters(first) * quarters(best[1]) <= quarters(best[0]) * quarters(second):
            best = first, second
    return best


def way_legs(one, other):
    """The legs of the way between two trees, in turn, each a pair of sides."""
    gone, come = apart(one, other)
    legs = []
    while come:
        first, second = first_leg(gone, come)
        legs.append((first, second))
        gone = without(gone, first)
        come = without(come, second)
    return legs


def quartered(number):
    """The sum that is an integer by 4."""
    return fraction_sum(reduced(number, 4))


def changed(one, other):
    """The squares of the changes of all shared lengths, times 4, an integer."""
    return sum([(doubled(first) - doubled(second)) ** 2 for _, first, second in common(one, other)])


def both_square(first, second):
    """The square of the sizes of two sides together, a sum."""
    both = sum_plus(size(first), size(second))
    return sum_times(both, both)


def shared(one, other):
    """The triples (lot, length, length) of all lots that two trees share, lots rising."""
    check_trees(one, other)
    return common(one, other)


def chain(one, other):
    """The legs of the way between two trees, in turn, each a pair (lots of the first tree, lots of the other one)."""
    check_trees(one, other)
    return tuple([(lots_of(first), lots_of(second)) for first, second in way_legs(one, other)])


def square(one, other):
    """The square of the length of the way between two trees, a sum."""
    check_trees(one, other)
    total = quartered(changed(one, other))
    for first, second in way_legs(one, other):
        total = sum_plus(total, both_square(first, second))
    return total


def bounds(one, other):
    """A pair of sums, never above and never below the square of the length of the way between two trees."""
    check_trees(one, other)
    gone, come = apart(one, other)
    same = changed(one, other)
    return quartered(same + quarters(gone) + quarters(come)), sum_plus(quartered(same), both_square(gone, come))


def unshared(one, other):
    """The number of the roads of both trees that are not shared."""
    check_trees(one, other)
    gone, come = apart(one, other)
    return len(gone) + len(come)

"""Means: the squares of the ways from some trees to a tree, and how far it is from being their mean."""

from treespace.errors import BadTree, BadTrees
from treespace.forms import is_tree
from treespace.sides import doubled, quotient
from treespace.sums import fraction_plus, fraction_sum, reduced, sum_plus, sum_times
from treespace.trees import all_lots, check_tree
from treespace.ways import common, square, way_legs

MOST_TREES = 6


def is_some(value):
    """Whether a value is a tuple of one to six trees with equally many tips."""
    if not isinstance(value, tuple) or not 1 <= len(value) <= MOST_TREES:
        return False
    return all([is_tree(tree) for tree in value]) and all([tree[0] == value[0][0] for tree in value])


def check_some(tree, some):
    """Raise BadTrees for what are not some trees, BadTree if a tree has not as many tips as these."""
    if not is_some(some):
        raise BadTrees()
    if tree[0] != some[0][0]:
        raise BadTree()


def own_pulls(tree, own):
    """The pulls that one of some trees has on the roads of a tree with many - 2 roads: a dict of sums by lots."""
    found = {}
    # Any lot that fits all lots of such a tree is its own, so all of these are on its roads.
    for lot, mine, its in common(tree, own):
        found[lot] = fraction_sum(fraction_plus(mine, (-its[0], its[1])))
    for first, second in way_legs(tree, own):
        factor = sum_plus(fraction_sum((1, 1)), quotient(second, first))
        for lot, length in first:
            found[lot] = sum_times(fraction_sum(length), factor)
    return found


def square_sum(tree, some):
    """What the squares of the lengths of the ways from some trees to a tree add up to, a sum."""
    check_tree(tree)
    check_some(tree, some)
    total = ()
    for own in some:
        total = sum_plus(total, square(own, tree))
    return total


def pull(tree, some):
    """The pairs (lot, sum) of the pulls on all roads of a tree with many - 2 roads."""
    check_tree(tree)
    many, roads = tree
    if len(roads) != many - 2:
        raise BadTree()
    check_some(tree, some)
    total = {lot: () for lot, _ in roads}
    for own in some:
        for lot, part in own_pulls(tree, own).items():
            total[lot] = sum_plus(total[lot], part)
    return tuple([(lot, total[lot]) for lot, _ in roads])


def is_mean(tree, some):
    """Whether a tree with many - 2 roads is the mean of some trees."""
    return all([part == () for _, part in pull(tree, some)])


def spider(some):
    """The roads of the mean of some trees with three tips: () or one pair (lot, fraction)."""
    if not is_some(some) or some[0][0] != 3:
        raise BadTrees()
    roads = [road for _, own in some for road in own]
    for lot in all_lots(3):
        # On this road the way to a tree with another road leads down to no roads at all, and on from there.
        total = sum([doubled(length) if by == lot else -doubled(length) for by, length in roads])
        if total > 0:
            return ((lot, reduced(total, 2 * len(some))),)
    return ()

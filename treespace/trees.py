"""Lots, shapes and trees: which lots fit, which shapes there are, and trees made from trees."""

from itertools import combinations

from treespace.checks import is_whole
from treespace.errors import BadFraction, BadLot, BadNumber, BadShape, BadTree
from treespace.forms import is_length, is_lot, is_many, is_shape, is_tree, lots_fit


def check_many(value):
    """Raise BadNumber for what is no number of tips."""
    if not is_many(value):
        raise BadNumber()


def check_tree(value):
    """Raise BadTree for what is no tree."""
    if not is_tree(value):
        raise BadTree()


def all_lots(many):
    """All lots of so many tips, rising."""
    return sorted([lot for size in range(2, many) for lot in combinations(range(1, many + 1), size)])


def fitting(lots, count):
    """All tuples of so many of these rising lots, any two of which fit, rising."""
    if count == 0:
        return [()]
    found = []
    for at, lot in enumerate(lots):
        later = [other for other in lots[at + 1:] if lots_fit(lot, other)]
        found.extend([(lot,) + rest for rest in fitting(later, count - 1)])
    return found


def fits(many, one, other):
    """Whether two lots fit."""
    check_many(many)
    if not is_lot(many, one) or not is_lot(many, other):
        raise BadLot()
    return lots_fit(one, other)


def shapes(many, roads):
    """The list of all shapes with so many lots, rising."""
    check_many(many)
    if not is_whole(roads) or not 0 <= roads <= many - 2:
        raise BadNumber()
    return fitting(all_lots(many), roads)


def around(many, shape):
    """The list of all shapes with many - 2 lots that have all lots of a shape, rising."""
    check_many(many)
    if not is_shape(many, shape):
        raise BadShape()
    free = [lot for lot in all_lots(many) if lot not in shape and all([lots_fit(lot, own) for own in shape])]
    return sorted([tuple(sorted(shape + more)) for more in fitting(free, many - 2 - len(shape))])


def shape_of(tree):
    """The shape of a tree."""
    check_tree(tree)
    return tuple([lot for lot, _ in tree[1]])


def is_order(many, value):
    """Whether a value is a tuple of all of so many tips."""
    if not isinstance(value, tuple) or not all([is_whole(tip) for tip in value]):
        return False
    return sorted(value) == list(range(1, many + 1))


def renamed(tree, order):
    """The tree in which each tip is called by its new name, order[tip - 1]."""
    check_tree(tree)
    many, roads = tree
    if not is_order(many, order):
        raise BadNumber()
    return many, tuple(sorted([(tuple(sorted([order[tip - 1] for tip in lot])), length) for lot, length in roads]))


def joined(one, other, length):
    """The tree with six tips that has two trees with three tips side by side, each below a road of a length."""
    for tree in (one, other):
        if not is_tree(tree) or tree[0] != 3:
            raise BadTree()
    if not is_length(length):
        raise BadFraction()
    moved = [(tuple([tip + 3 for tip in lot]), own) for lot, own in other[1]]
    above = [((1, 2, 3), length), ((4, 5, 6), length)]
    return 6, tuple(sorted(list(one[1]) + moved + above))

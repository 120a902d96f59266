"""What a value is: a number of tips, a lot, a shape, a length, a tree."""

from treespace.checks import is_fraction, is_pair, is_whole, rises

FEWEST_TIPS = 3
MOST_TIPS = 6
LONGEST = 500


def is_many(value):
    """Whether a value is a number of tips."""
    return is_whole(value) and FEWEST_TIPS <= value <= MOST_TIPS


def is_lot(many, value):
    """Whether a value is a lot of so many tips."""
    if not isinstance(value, tuple) or not 2 <= len(value) < many:
        return False
    return all([is_whole(tip) and 1 <= tip <= many for tip in value]) and rises(value)


def lots_fit(one, other):
    """Whether one of two lots holds all tips of the other, or they have none in common."""
    common = len([tip for tip in one if tip in other])
    return common == 0 or common == len(one) or common == len(other)


def is_shape(many, value):
    """Whether a value is a shape of so many tips."""
    if not isinstance(value, tuple) or not all([is_lot(many, lot) for lot in value]):
        return False
    return rises(value) and all([lots_fit(one, other) for one in value for other in value])


def is_length(value):
    """Whether a value is the length of a road."""
    if not is_fraction(value):
        return False
    top, low = value
    return low <= 2 and 0 < top <= LONGEST * low


def is_roads(many, value):
    """Whether a value is a tuple of pairs (lot, length) as a tree of so many tips has them."""
    if not isinstance(value, tuple) or not all([is_pair(road) and is_length(road[1]) for road in value]):
        return False
    return is_shape(many, tuple([road[0] for road in value]))


def is_tree(value):
    """Whether a value is a tree."""
    return is_pair(value) and is_many(value[0]) and is_roads(value[0], value[1])

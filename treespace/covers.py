"""Legs: whether one can be parted cheaper, or else how its lots share in each other."""

from treespace.checks import is_fraction, is_same, rises
from treespace.errors import BadLeg
from treespace.forms import is_roads, lots_fit
from treespace.sides import crossing, groups, lots_of, quarters, without
from treespace.sums import fraction_plus, reduced
from treespace.trees import check_many


def is_side(many, value):
    """Whether a value is a side, for so many tips."""
    return is_roads(many, value) and len(value) > 0


def is_leg(many, one, other):
    """Whether two values are the sides of a leg, for so many tips."""
    if not is_side(many, one) or not is_side(many, other):
        return False
    return crossing(one, other) == one and crossing(other, one) == other


def check_leg(many, one, other):
    """Raise BadNumber for what is no number of tips, BadLeg for what are not the sides of a leg."""
    check_many(many)
    if not is_leg(many, one, other):
        raise BadLeg()


def cheaper_parting(one, other):
    """A cheaper parting of a leg, or None if there is none."""
    for ahead in groups(other):
        # What doesn't fit the first pair's second has to go first; whatever else goes first makes that pair dearer.
        gone = crossing(one, ahead)
        left = without(one, gone)
        later = without(other, ahead)
        # This never holds if a side is empty: the size of no roads is 0.
        if quarters(gone) * quarters(later) < quarters(left) * quarters(ahead):
            return (gone, ahead), (left, later)
    return None


def cheaper(many, one, other):
    """Any cheaper parting of a leg, or None if there is none."""
    check_leg(many, one, other)
    return cheaper_parting(one, other)


def portions(side, factor):
    """The squares of the lengths of a side, by lots, times 4 and a factor."""
    return {road[0]: quarters((road,)) * factor for road in side}


def most_between(one, other, pair, supply, need):
    """The most that the lots of a pair may have of what is left, such that all of it can still be shared.

    It can be shared if any lots of the second side need no more than is left of all lots that don't fit one of them.
    What the pair takes, it takes of both, unless its second lot is not one of those.
    """
    lot, to = pair
    most = min(supply[lot], need[to])
    for group in groups([road for road in other if road[0] != to]):
        near = lots_of(crossing(one, group))
        if lot in near:
            spare = sum([supply[own] for own in near]) - sum([need[own] for own in lots_of(group)])
            most = min(most, spare)
    return most


def leg_table(one, other):
    """A table of a leg that has no cheaper parting."""
    # With portions by the other side's size, the shares are integers until they are divided by the whole. As each pair
    # takes the most, none of those behind it leave anything to it: once all have taken, nothing is left.
    supply = portions(one, quarters(other))
    need = portions(other, quarters(one))
    whole = quarters(one) * quarters(other)
    table = []
    for lot in lots_of(one):
        for to in lots_of(other):
            if lots_fit(lot, to):
                continue
            most = most_between(one, other, (lot, to), supply, need)
            supply[lot] -= most
            need[to] -= most
            if most > 0:
                table.append((lot, to, reduced(most, whole)))
    return tuple(table)


def shares(many, one, other):
    """Any table of a leg, or None if there is none."""
    check_leg(many, one, other)
    if cheaper_parting(one, other) is not None:
        return None
    return leg_table(one, other)


def is_row(value, one, other):
    """Whether a value is a triple as a table of a leg has them, with any fraction above 0."""
    if not isinstance(value, tuple) or len(value) != 3:
        return False
    lot, to, share = value
    if not any([is_same(lot, own) for own in lots_of(one)]) or not any([is_same(to, own) for own in lots_of(other)]):
        return False
    return not lots_fit(lot, to) and is_fraction(share) and share[0] > 0


def adds_up(side, pairs):
    """Whether the shares in pairs (lot, share) are together what each lot of a side has of its size."""
    found = {lot: (0, 1) for lot in lots_of(side)}
    for lot, share in pairs:
        found[lot] = fraction_plus(found[lot], share)
    whole = quarters(side)
    return all([found[road[0]] == reduced(quarters((road,)), whole) for road in side])


def is_table(value, one, other):
    """Whether a value is a table of a leg."""
    if not isinstance(value, tuple) or not all([is_row(row, one, other) for row in value]):
        return False
    if not rises([(lot, to) for lot, to, _ in value]):
        return False
    if not adds_up(one, [(lot, share) for lot, _, share in value]):
        return False
    return adds_up(other, [(to, share) for _, to, share in value])

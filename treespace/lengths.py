"""All lengths: which chains come between two shapes, whatever the lengths of their roads."""

from math import isqrt

from treespace.checks import is_same
from treespace.errors import BadChain, BadShape
from treespace.forms import is_shape, lots_fit
from treespace.sides import crossing, groups, lots_of, without
from treespace.trees import check_many
from treespace.ways import apart

# Large enough for the squares of whole lengths to be nearly as small integers, small enough for lengths up to 500.
STEP = 100


def check_shapes(many, one, other):
    """Raise BadNumber for what is no number of tips, BadShape for what are not two shapes."""
    check_many(many)
    if not is_shape(many, one) or not is_shape(many, other):
        raise BadShape()


def hang_together(first, second):
    """Whether one comes from any road of two sides to any other one over roads that don't fit each other."""
    reached = first[:1]
    while True:
        near = crossing(second, reached)
        more = crossing(first, near)
        if len(more) == len(reached):
            return len(reached) == len(first) and len(near) == len(second)
        reached = more


def open_rows(gone, come):
    """All chains that come openly where some roads go and others come.

    A leg whose sides fall apart into pieces that fit each other is none but for pieces with alike quotients. If the
    sides hang together, there are lengths for which all partings are dearer, and then any factor at one of the sides
    gives the leg any quotient. So nothing else is asked of the legs but what has to have gone ahead of what comes.
    """
    if not come:
        return [()]
    rows = []
    for second in groups(come):
        first = crossing(gone, second)
        if hang_together(first, second):
            leg = lots_of(first), lots_of(second)
            rows.extend([(leg,) + rest for rest in open_rows(without(gone, first), without(come, second))])
    return rows


def unit_tree(many, shape):
    """The tree of a shape with all lengths 1."""
    return many, tuple([(lot, (1, 1)) for lot in shape])


def balanced(lots, against, factor):
    """The pairs (lot, length) of a side of a leg, the squares of lengths nearly as the numbers of lots that don't fit.

    If the squares were just so, a table could give each two lots that don't fit the same share. Then the first pair of
    any parting has more of the first side than of the second one, by at least one of these shares: 1/16 or more. No
    length is off by so much that this is lost, so no parting is cheaper.
    The fourth leg, with the factor 4, has one lot on each side, the third one no more than two, and so on, so that no
    length is too large.
    """
    found = []
    for lot in lots:
        count = len([by for by in against if not lots_fit(lot, by)])
        found.append((lot, (isqrt(count * (STEP * factor) ** 2), 1)))
    return found


def open_chains(many, one, other):
    """The list of all chains that come openly between two shapes, rising."""
    check_shapes(many, one, other)
    # Which lots fit is all that counts, so any lengths will do.
    gone, come = apart(unit_tree(many, one), unit_tree(many, other))
    return sorted(open_rows(gone, come))


def lengths_for(many, one, other, told):
    """Any pair of trees of two shapes between which a chain that comes openly is the chain."""
    if not any([is_same(told, known) for known in open_chains(many, one, other)]):
        raise BadChain()
    first = dict(unit_tree(many, one)[1])
    second = dict(unit_tree(many, other)[1])
    for factor, (gone, come) in enumerate(told, start=1):
        # So each leg's quotient of sizes is nearly its factor, and they rise.
        first.update(dict(balanced(gone, come, factor)))
        second.update(dict(balanced(come, gone, 1)))
    return (many, tuple(sorted(first.items()))), (many, tuple(sorted(second.items())))


def always_star(many, one, other):
    """Whether the way between trees of two shapes has, whatever the lengths, somewhere no roads at all."""
    check_shapes(many, one, other)
    # If some two lots fit, there are lengths for which one of them is there when the other one comes, or always.
    return all([not lots_fit(lot, by) for lot in one for by in other])

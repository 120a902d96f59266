"""Some roads: their size, which of them don't fit others, and all ways to take some of them."""

from itertools import combinations

from treespace.forms import lots_fit
from treespace.sums import reduced, root_sum


def doubled(length):
    """A length times 2, an integer, as each length is whole or a half."""
    top, low = length
    return 2 * top // low


def quarters(roads):
    """The square of the size of some roads, times 4, an integer."""
    return sum([doubled(length) ** 2 for _, length in roads])


def size(roads):
    """The size of some roads, a sum."""
    return root_sum(reduced(quarters(roads), 4))


def quotient(one, other):
    """The size of some roads by that of others, at least one, a sum."""
    return root_sum(reduced(quarters(one), quarters(other)))


def crossing(roads, others):
    """Those roads, in their order, whose lot doesn't fit some lot of the others."""
    return tuple([road for road in roads if any([not lots_fit(road[0], other[0]) for other in others])])


def without(roads, others):
    """Those roads, in their order, that are not among the others."""
    return tuple([road for road in roads if road not in others])


def groups(roads):
    """All tuples of at least one of some roads, in their order, those of fewer roads first."""
    return [group for count in range(1, len(roads) + 1) for group in combinations(list(roads), count)]


def lots_of(roads):
    """The lots of some roads, in their order."""
    return tuple([lot for lot, _ in roads])

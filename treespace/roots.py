"""Sums of square roots: exact arithmetic on them, their signs and their figures."""

from treespace.checks import is_fraction, is_pair, is_whole, rises
from treespace.errors import BadFraction, BadNumber, BadSum
from treespace.sums import root_sum, square_split, sum_figures, sum_plus, sum_sign, sum_times

ROOT_MOST = 10 ** 9
ROOT_MOST_LOW = 1000
SUM_MOST_PAIRS = 20
SUM_MOST_RADICAND = 10 ** 15
FIGURES_MOST_BITS = 200


def is_sum_pair(value):
    """Whether a value is a pair of a radicand within the limit, perhaps with a square in it, and a fraction not 0."""
    if not is_pair(value):
        return False
    radicand, part = value
    if not is_whole(radicand) or not 1 <= radicand <= SUM_MOST_RADICAND:
        return False
    return is_fraction(part) and part[0] != 0


def is_sum(value):
    """Whether a value is a sum that may be passed."""
    if not isinstance(value, tuple) or len(value) > SUM_MOST_PAIRS:
        return False
    if not all([is_sum_pair(pair) for pair in value]):
        return False
    radicands = [pair[0] for pair in value]
    return rises(radicands) and all([square_split(radicand)[0] == 1 for radicand in radicands])


def check_sum(value):
    """Raise BadSum for what is no sum that may be passed."""
    if not is_sum(value):
        raise BadSum()


def root(one):
    """The root, a sum, of a fraction from 0 to 10 ** 9 with low up to 1000."""
    if not is_fraction(one):
        raise BadFraction()
    top, low = one
    if low > ROOT_MOST_LOW or not 0 <= top <= ROOT_MOST * low:
        raise BadFraction()
    return root_sum(one)


def plus(one, other):
    """The sum of two sums."""
    check_sum(one)
    check_sum(other)
    return sum_plus(one, other)


def times(one, other):
    """The product of two sums."""
    check_sum(one)
    check_sum(other)
    return sum_times(one, other)


def sign(one):
    """The sign of a sum: -1, 0 or 1."""
    check_sum(one)
    return sum_sign(one)


def figures(one, bits):
    """The greatest integer that is not above a sum times 2 ** bits."""
    check_sum(one)
    if not is_whole(bits) or not 0 <= bits <= FIGURES_MOST_BITS:
        raise BadNumber()
    return sum_figures(one, bits)

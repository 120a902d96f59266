"""Sums as numbers and numbers as sums, and the lengths of ways by trying. Nothing here is taken from the program."""

from decimal import Decimal, localcontext
from fractions import Fraction
from math import isqrt

from tests import tries

MINUS = ((1, (-1, 1)),)
BITS = 300


def whole(number):
    """An integer as a sum."""
    return ((1, (number, 1)),) if number else ()


def fraction_sum(number):
    """A fraction of Python as a sum."""
    return ((1, (number.numerator, number.denominator)),) if number else ()


def near(one):
    """A fraction of Python that is very near to the value of a sum."""
    parts = [tries.value(part) * isqrt(radicand << (2 * BITS)) for radicand, part in one]
    return sum(parts, Fraction(0)) / 2 ** BITS


def pair(number):
    """A fraction of Python as a fraction of the document."""
    return (number.numerator, number.denominator)


def decimal(fraction):
    return Decimal(fraction.numerator) / Decimal(fraction.denominator)


def changes(one, other):
    """The squares of the changes of all lengths that two trees share."""
    gone, come = tries.unshared_roads(one, other)
    first = {lot: tries.value(length) for lot, length in one[1] if (lot, length) not in gone}
    second = {lot: tries.value(length) for lot, length in other[1] if (lot, length) not in come}
    return sum(((first.get(lot, 0) - second.get(lot, 0)) ** 2 for lot in {**first, **second}), Fraction(0))


def least_square(one, other):
    """The least of what the squares add up to for all rows of legs whose quotients don't fall: a Decimal.

    The lengths of the two trees may be any fractions above 0.
    """
    found = []
    with localcontext() as context:
        context.prec = 80
        for row in tries.rows_of_legs(*tries.unshared_roads(one, other)):
            quotients = [tries.quotient(leg) for leg in row]
            if any(before > behind for before, behind in zip(quotients, quotients[1:])):
                continue
            total = decimal(changes(one, other))
            for first, second in row:
                sizes = [decimal(tries.size_square(side)).sqrt() for side in (first, second)]
                total += (sizes[0] + sizes[1]) ** 2
            found.append(total)
    return min(found)

"""Arithmetic of fractions and of sums of roots, whatever their size.

The functions take for granted that they are passed fractions and sums. Unlike those of treespace.roots they know no
limits, since sums that come out may be larger than those that may be passed in.
"""

from math import gcd, isqrt, lcm


def reduced(top, low):
    """The fraction that is top by low, for a low above 0."""
    common = gcd(top, low)
    return top // common, low // common


def fraction_plus(one, other):
    """The sum of two fractions."""
    return reduced(one[0] * other[1] + other[0] * one[1], one[1] * other[1])


def fraction_times(one, other):
    """The product of two fractions."""
    return reduced(one[0] * other[0], one[1] * other[1])


def fraction_sum(one):
    """The sum that is a fraction."""
    return ((1, one),) if one[0] != 0 else ()


def square_split(number):
    """The pair (outside, radicand) with number == outside ** 2 * radicand and no square in the radicand."""
    outside = 1
    radicand = 1
    rest = number
    factor = 2
    # What is left has no divisor below factor. Once the cube of factor is above it, it has at most two prime divisors,
    # and the only square that it may still hold is itself.
    while factor * factor * factor <= rest:
        if rest % factor != 0:
            factor += 1 if factor == 2 else 2
            continue
        rest //= factor
        if rest % factor == 0:
            rest //= factor
            outside *= factor
        else:
            radicand *= factor
    last = isqrt(rest)
    if last * last == rest:
        return outside * last, radicand
    return outside, radicand * rest


def collected(pairs):
    """The sum that these pairs make, in any order, with radicands that may repeat."""
    parts = {}
    for radicand, part in pairs:
        parts[radicand] = fraction_plus(parts.get(radicand, (0, 1)), part)
    return tuple([(radicand, parts[radicand]) for radicand in sorted(parts) if parts[radicand][0] != 0])


def root_sum(one):
    """The root of a fraction that is not below 0."""
    top, low = one
    if top == 0:
        return ()
    # Top and low have no common divisor, so there is no square in the product of their radicands either.
    outside, radicand = square_split(top)
    low_outside, low_radicand = square_split(low)
    return ((radicand * low_radicand, reduced(outside * low_outside, low)),)


def sum_plus(one, other):
    """The sum of two sums."""
    return collected(one + other)


def pair_times(one, other):
    """The product of two pairs of sums, a pair."""
    common = gcd(one[0], other[0])
    radicand = (one[0] // common) * (other[0] // common)
    return radicand, fraction_times((common, 1), fraction_times(one[1], other[1]))


def sum_times(one, other):
    """The product of two sums."""
    return collected([pair_times(part, by) for part in one for by in other])


def over_one_low(one):
    """The pair (low, parts) such that a sum times low is that of the integers in parts, each times its root."""
    low = 1
    for _, part in one:
        low = lcm(low, part[1])
    return low, [(radicand, top * (low // part_low)) for radicand, (top, part_low) in one]


def between(parts, bits):
    """Two integers around the value of parts (radicand, integer) times 2 ** bits, alike only if they are the value."""
    below = 0
    above = 0
    for radicand, factor in parts:
        square = (factor * factor * radicand) << (2 * bits)
        under = isqrt(square)
        over = under if under * under == square else under + 1
        if factor > 0:
            below += under
            above += over
        else:
            below -= over
            above -= under
    return below, above


def sum_sign(one):
    """The sign of a sum: -1, 0 or 1."""
    if not one:
        return 0
    parts = over_one_low(one)[1]
    bits = 64
    below, above = between(parts, bits)
    # Roots of different radicands without squares never cancel whole, so some number of bits tells.
    while below <= 0 <= above:
        bits *= 2
        below, above = between(parts, bits)
    return 1 if below > 0 else -1


def sum_figures(one, bits):
    """The greatest integer that is not above a sum times 2 ** bits."""
    low, parts = over_one_low(one)
    extra = 64
    # The value is either without roots, then both bounds are alike, or it is no fraction at all, and so no integer.
    while True:
        below, above = between(parts, bits + extra)
        figure = below // (low << extra)
        if figure == above // (low << extra):
            return figure
        extra *= 2

"""What a value is: an integer, a pair, a fraction."""

from math import gcd


def is_whole(value):
    """Whether a value is an integer."""
    # To Python True and False are integers, too; to the document they are not.
    return isinstance(value, int) and not isinstance(value, bool)


def is_pair(value):
    """Whether a value is a tuple of two."""
    return isinstance(value, tuple) and len(value) == 2


def is_fraction(value):
    """Whether a value is a fraction in lowest terms, its low above 0."""
    if not is_pair(value):
        return False
    top, low = value
    return is_whole(top) and is_whole(low) and low > 0 and gcd(top, low) == 1


def rises(values):
    """Whether each of these comparable values is above the one ahead of it."""
    return all([value < following for value, following in zip(values, values[1:])])


def is_same(value, known):
    """Whether a value is what is known, made of integers and tuples, its kinds counted: True is not 1."""
    if not isinstance(known, tuple):
        return is_whole(value) and value == known
    if not isinstance(value, tuple) or len(value) != len(known):
        return False
    return all([is_same(part, own) for part, own in zip(value, known)])

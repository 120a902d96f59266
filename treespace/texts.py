"""Texts: trees as strings, and back."""

from treespace.errors import BadText
from treespace.forms import is_tree
from treespace.trees import check_tree

DIGITS = "0123456789"
# No number in a text of a tree has more digits: lengths are at most 500, or 999 by 2.
MOST_DIGITS = 3


def text_of(tree):
    """The text of a tree."""
    many, roads = tree
    parts = [str(many) + ":"]
    for lot, (top, low) in roads:
        length = str(top) if low == 1 else str(top) + "/" + str(low)
        parts.append(" " + " ".join([str(tip) for tip in lot]) + " = " + length + ";")
    return "".join(parts)


def number_of(word):
    """The integer that a word is, or 0, which stands nowhere in a text of a tree, if it is none or has more digits."""
    if not 1 <= len(word) <= MOST_DIGITS or not all([sign in DIGITS for sign in word]):
        return 0
    return int(word)


def road_of(part):
    """The pair (lot, length) of a part of a text, or a pair that is no road."""
    lot_text, _, length_text = part.partition(" = ")
    top, stroke, low_text = length_text.partition("/")
    lot = tuple([number_of(word) for word in lot_text.split()])
    low = number_of(low_text) if stroke else 1
    return lot, (number_of(top), low)


def write(tree):
    """The text of a tree."""
    check_tree(tree)
    return text_of(tree)


def read(text):
    """The tree of a text."""
    if not isinstance(text, str):
        raise BadText()
    many, _, rest = text.partition(":")
    tree = number_of(many), tuple([road_of(part) for part in rest.split(";")[:-1]])
    # The parts were taken as they come, with blanks too many for instance, but a tree has one text.
    if not is_tree(tree) or text_of(tree) != text:
        raise BadText()
    return tree

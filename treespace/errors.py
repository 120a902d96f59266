"""The errors of the package, one for each kind of value that is not allowed."""


class TreeError(ValueError):
    """The base class of all errors of the package."""


class BadFraction(TreeError):
    """A value is no fraction, or none that is allowed there."""


class BadSum(TreeError):
    """A value is no sum of roots, or one that is too large."""


class BadNumber(TreeError):
    """A value is no integer, or none that is allowed there."""


class BadLot(TreeError):
    """A value is no lot of tips."""


class BadShape(TreeError):
    """A value is no shape."""


class BadTree(TreeError):
    """A value is no tree, or none that is allowed there."""


class BadTrees(TreeError):
    """A value is no tuple of trees, or none that is allowed there."""


class BadLeg(TreeError):
    """Two values are not the sides of a leg."""


class BadChain(TreeError):
    """A value is no chain that comes openly between two shapes."""


class BadText(TreeError):
    """A value is not the text of a tree."""

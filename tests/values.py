"""Values that several tests pass to the program."""


def odd_values():
    """Values of all kinds that may be passed for any argument; none is a fraction, a lot, a road or a tree."""
    return [
        None, True, False, -1, 10 ** 40, "", "3", "ab", "(1, 1)", [], {}, [1, 2], {1: 2}, [[1, 2]], [None],
        {"a": (1, 1)}, [(1, 2), (1, 2, 3)], (None,), ("a", "b"), (True, True), (False, 1), ((), ()), ((), (), ()),
        ([], []), ({}, {}), ([1, 2],), ("12",), (None, None), ((((),),),), [()], {(): ()}, (-1, -2), ({1: 1}, 1),
    ]


def own_copy(value):
    """A copy of a value that has no list and no dict in common with it."""
    if isinstance(value, list):
        return [own_copy(part) for part in value]
    if isinstance(value, tuple):
        return tuple(own_copy(part) for part in value)
    if isinstance(value, dict):
        return {key: own_copy(part) for key, part in value.items()}
    return value


def kinds(value):
    """A value with the name of each part's class beside it, so that 1 and True, (1,) and [1] are told apart."""
    if isinstance(value, (list, tuple)):
        return (type(value).__name__, [kinds(part) for part in value])
    if isinstance(value, dict):
        return ("dict", [(kinds(key), kinds(part)) for key, part in value.items()])
    return (type(value).__name__, value)

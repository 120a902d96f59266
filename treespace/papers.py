"""Papers: what shows that a way is the way between two trees."""

from treespace.checks import is_pair, is_same
from treespace.covers import is_table, leg_table
from treespace.ways import chain, way_legs


def way_paper(one, other):
    """Any paper of the way between two trees: its chain, and a table for each leg."""
    told = chain(one, other)
    return told, tuple([leg_table(first, second) for first, second in way_legs(one, other)])


def shows_way(one, other, thing):
    """Whether any value is a paper of the way between two trees."""
    known = chain(one, other)
    if not is_pair(thing):
        return False
    told, tables = thing
    if not is_same(told, known) or not isinstance(tables, tuple) or len(tables) != len(known):
        return False
    legs = way_legs(one, other)
    return all([is_table(table, first, second) for table, (first, second) in zip(tables, legs)])

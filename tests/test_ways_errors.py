"""Two trees that are none, or have unlike numbers of tips, passed to the functions of ways and papers."""

import unittest

from treespace import papers, ways
from treespace.errors import BadTree
from tests.test_trees_errors import ALL_NO_TREES, Case
from tests.values import odd_values

TREE = (4, (((1, 2), (3, 1)), ((1, 2, 3), (4, 1))))
CALLS = [ways.shared, ways.chain, ways.square, ways.bounds, ways.unshared, papers.way_paper]
THINGS = [None, (), ((), ()), True, 5, "text", [], {}, papers.way_paper(TREE, TREE)]


class TreeErrorsTest(Case):
    def test_no_trees(self):
        for tree in ALL_NO_TREES + odd_values():
            for call in CALLS:
                self.bad(BadTree, call, tree, TREE)
                self.bad(BadTree, call, TREE, tree)
                self.bad(BadTree, call, tree, tree)

    def test_unlike_numbers_of_tips(self):
        for many in range(3, 7):
            for more in range(3, 7):
                one, other = (many, ()), (more, (((1, 2), (1, 1)),))
                for call in CALLS:
                    if many == more:
                        call(one, other)
                    else:
                        self.bad(BadTree, call, one, other)
                        self.bad(BadTree, call, other, one)
                        self.bad(BadTree, call, one, (more, ()))

    def test_trees_come_ahead_of_the_thing(self):
        for thing in THINGS:
            for tree in ALL_NO_TREES:
                self.bad(BadTree, papers.shows_way, tree, TREE, thing)
                self.bad(BadTree, papers.shows_way, TREE, tree, thing)
            self.bad(BadTree, papers.shows_way, TREE, (5, ()), thing)
            self.bad(BadTree, papers.shows_way, (3, ()), TREE, thing)


if __name__ == "__main__":
    unittest.main()

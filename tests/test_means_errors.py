"""What is no tree and what are not some trees, passed to the functions of means, and which error comes first."""

import unittest

from treespace.errors import BadTree, BadTrees
from treespace.means import is_mean, pull, spider, square_sum
from treespace.trees import shapes
from tests.test_trees_errors import ALL_NO_TREES, Case
from tests.values import odd_values

ONE = (3, (((1, 2), (3, 1)),))
TREE = (4, (((1, 2), (3, 1)), ((1, 2, 3), (4, 1))))
SOME = (TREE, (4, ()))
CALLS = [square_sum, pull, is_mean]

NO_SOME = [
    (), (TREE,) * 7, ((4, ()),) * 8, ((4, ()),) * 1000, [TREE], [TREE] * 2, [], {}, {TREE: TREE}, {0: TREE}, None, True,
    0, 1, "", "trees", TREE, TREE[1], (SOME,), (TREE, None), (None, TREE), (TREE, list(TREE)), (TREE, []), (TREE, ()),
    (TREE, (3, ())), ((3, ()), TREE), (TREE, TREE, (5, ())), ((3, ()), (4, ()), (5, ())), (TREE, (True, ())),
    (TREE, (7, ())), ((7, ()),), ((2, ()),), (TREE, "4:"), ("4:",), (4, 4), (TREE, 4), (TREE, TREE[1]),
]


class TreeErrorsTest(Case):
    def test_no_trees(self):
        for tree in ALL_NO_TREES + odd_values():
            for call in CALLS:
                self.bad(BadTree, call, tree, SOME)

    def test_fewer_roads_than_the_tips_have_room_for(self):
        for many in range(3, 7):
            for roads in range(many - 2):
                tree = (many, tuple((lot, (1, 1)) for lot in shapes(many, roads)[-1]))
                square_sum(tree, (tree,))
                self.bad(BadTree, pull, tree, (tree,))
                self.bad(BadTree, is_mean, tree, (tree,))

    def test_the_tree_comes_first(self):
        for some in NO_SOME:
            for call in CALLS:
                self.bad(BadTree, call, None, some)
                self.bad(BadTree, call, [], some)
                self.bad(BadTree, call, (7, ()), some)
            for call in CALLS[1:]:
                self.bad(BadTree, call, (3, ()), some)
                self.bad(BadTree, call, (4, TREE[1][:1]), some)

    def test_a_tree_with_another_number_of_tips_than_the_trees(self):
        # There is no way between the two, and of these BadTree is raised.
        for call in CALLS:
            self.bad(BadTree, call, ONE, SOME)
            self.bad(BadTree, call, TREE, (ONE,))
            self.bad(BadTree, call, TREE, ((5, ()),) * 6)


class SomeErrorsTest(Case):
    def test_no_some_trees(self):
        for some in NO_SOME + odd_values():
            for call in CALLS:
                self.bad(BadTrees, call, TREE, some)
            self.bad(BadTrees, spider, some)

    def test_one_of_them_is_no_tree(self):
        for tree in ALL_NO_TREES + odd_values():
            for some in ((tree,), (TREE, tree), (tree, TREE), (TREE,) * 5 + (tree,)):
                for call in CALLS:
                    self.bad(BadTrees, call, TREE, some)
            self.bad(BadTrees, spider, (tree,))
            self.bad(BadTrees, spider, (ONE, tree))

    def test_trees_that_fit_neither_each_other_nor_the_tree(self):
        for call in CALLS:
            self.bad(BadTrees, call, TREE, (ONE, (5, ())))
            self.bad(BadTrees, call, TREE, (ONE,) * 7)

    def test_spiders_have_three_tips(self):
        for many in range(4, 7):
            for count in range(1, 8):
                self.bad(BadTrees, spider, ((many, ()),) * count)
        self.bad(BadTrees, spider, (ONE, (4, ())))
        self.bad(BadTrees, spider, (ONE,) * 7)
        self.bad(BadTrees, spider, [ONE])
        self.bad(BadTrees, spider, ONE)


if __name__ == "__main__":
    unittest.main()

"""The examples of the interface, as the document shows them."""

import unittest

from treespace.covers import cheaper, shares
from treespace.errors import BadSum, BadTree
from treespace.papers import shows_way, way_paper
from treespace.roots import figures, plus, root, sign
from treespace.trees import around, fits, renamed, shapes
from treespace.ways import bounds, chain, shared, square

ONE = (4, (((1, 2), (3, 1)), ((1, 2, 3), (4, 1))))
OTHER = (4, (((2, 3), (1, 1)), ((2, 3, 4), (1, 1))))


class ExamplesTest(unittest.TestCase):
    def test_roots(self):
        self.assertEqual(
            [root((8, 1)), sign(((1, (-3, 2)), (2, (1, 1)))), figures(((2, (1, 1)),), 4)],
            [((2, (2, 1)),), -1, 22],
        )

    def test_roots_error(self):
        with self.assertRaises(BadSum):
            plus(((4, (1, 1)),), ())

    def test_trees(self):
        self.assertEqual(
            [fits(4, (1, 2), (3, 4)), len(shapes(4, 2)), around(4, ((1, 2),))],
            [True, 15, [((1, 2), (1, 2, 3)), ((1, 2), (1, 2, 4)), ((1, 2), (3, 4))]],
        )

    def test_renamed(self):
        self.assertEqual(renamed((4, (((1, 2), (3, 1)),)), (4, 3, 2, 1)), (4, (((3, 4), (3, 1)),)))

    def test_cheaper(self):
        self.assertEqual(
            cheaper(4, (((1, 2), (3, 1)), ((1, 2, 3), (4, 1))), (((2, 3), (1, 1)), ((2, 3, 4), (1, 1)))),
            (((((1, 2), (3, 1)),), (((2, 3), (1, 1)),)), ((((1, 2, 3), (4, 1)),), (((2, 3, 4), (1, 1)),))),
        )

    def test_shares(self):
        self.assertEqual(
            shares(4, (((1, 2), (4, 1)), ((1, 2, 3), (3, 1))), (((2, 3), (1, 1)), ((2, 3, 4), (1, 1)))),
            (((1, 2), (2, 3), (1, 2)), ((1, 2), (2, 3, 4), (7, 50)), ((1, 2, 3), (2, 3, 4), (9, 25))),
        )

    def test_ways(self):
        self.assertEqual(
            [chain(ONE, OTHER), square(ONE, OTHER), bounds(ONE, OTHER)[1]],
            [((((1, 2),), ((2, 3),)), (((1, 2, 3),), ((2, 3, 4),))), ((1, (41, 1)),), ((1, (27, 1)), (2, (10, 1)))],
        )

    def test_shared(self):
        self.assertEqual(
            shared((4, (((1, 2), (3, 1)),)), (4, (((1, 2, 3), (1, 2)),))),
            (((1, 2), (3, 1), (0, 1)), ((1, 2, 3), (0, 1), (1, 2))),
        )

    def test_papers(self):
        self.assertEqual(
            [way_paper(ONE, OTHER)[1], shows_way(OTHER, ONE, way_paper(ONE, OTHER))],
            [((((1, 2), (2, 3), (1, 1)),), (((1, 2, 3), (2, 3, 4), (1, 1)),)), False],
        )

    def test_papers_error(self):
        with self.assertRaises(BadTree):
            shows_way((3, ()), (4, ()), None)


if __name__ == "__main__":
    unittest.main()

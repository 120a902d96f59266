"""The examples of the interface, as the document shows them."""

import unittest

from treespace.covers import cheaper, shares
from treespace.errors import BadChain, BadSum, BadText, BadTree
from treespace.lengths import always_star, lengths_for, open_chains
from treespace.means import is_mean, pull, spider, square_sum
from treespace.papers import shows_way, way_paper
from treespace.roots import figures, plus, root, sign
from treespace.spots import breaks, past_star, spot, stretches
from treespace.texts import read, write
from treespace.trees import around, fits, renamed, shapes
from treespace.ways import bounds, chain, shared, square

ONE = (4, (((1, 2), (3, 1)), ((1, 2, 3), (4, 1))))
OTHER = (4, (((2, 3), (1, 1)), ((2, 3, 4), (1, 1))))


class ExamplesTest(unittest.TestCase):
    def test_roots(self):
        self.assertEqual(
            [root((8, 1)), sign(((1, (-3, 2)), (2, (1, 1)))), figures(((2, (1, 1)),), 4)],
            [((2, (2, 1)),), -1, 22],
        )

    def test_roots_error(self):
        with self.assertRaises(BadSum):
            plus(((4, (1, 1)),), ())

    def test_trees(self):
        self.assertEqual(
            [fits(4, (1, 2), (3, 4)), len(shapes(4, 2)), around(4, ((1, 2),))],
            [True, 15, [((1, 2), (1, 2, 3)), ((1, 2), (1, 2, 4)), ((1, 2), (3, 4))]],
        )

    def test_renamed(self):
        self.assertEqual(renamed((4, (((1, 2), (3, 1)),)), (4, 3, 2, 1)), (4, (((3, 4), (3, 1)),)))

    def test_cheaper(self):
        self.assertEqual(
            cheaper(4, (((1, 2), (3, 1)), ((1, 2, 3), (4, 1))), (((2, 3), (1, 1)), ((2, 3, 4), (1, 1)))),
            (((((1, 2), (3, 1)),), (((2, 3), (1, 1)),)), ((((1, 2, 3), (4, 1)),), (((2, 3, 4), (1, 1)),))),
        )

    def test_shares(self):
        self.assertEqual(
            shares(4, (((1, 2), (4, 1)), ((1, 2, 3), (3, 1))), (((2, 3), (1, 1)), ((2, 3, 4), (1, 1)))),
            (((1, 2), (2, 3), (1, 2)), ((1, 2), (2, 3, 4), (7, 50)), ((1, 2, 3), (2, 3, 4), (9, 25))),
        )

    def test_ways(self):
        self.assertEqual(
            [chain(ONE, OTHER), square(ONE, OTHER), bounds(ONE, OTHER)[1]],
            [((((1, 2),), ((2, 3),)), (((1, 2, 3),), ((2, 3, 4),))), ((1, (41, 1)),), ((1, (27, 1)), (2, (10, 1)))],
        )

    def test_shared(self):
        self.assertEqual(
            shared((4, (((1, 2), (3, 1)),)), (4, (((1, 2, 3), (1, 2)),))),
            (((1, 2), (3, 1), (0, 1)), ((1, 2, 3), (0, 1), (1, 2))),
        )

    def test_papers(self):
        self.assertEqual(
            [way_paper(ONE, OTHER)[1], shows_way(OTHER, ONE, way_paper(ONE, OTHER))],
            [((((1, 2), (2, 3), (1, 1)),), (((1, 2, 3), (2, 3, 4), (1, 1)),)), False],
        )

    def test_papers_error(self):
        with self.assertRaises(BadTree):
            shows_way((3, ()), (4, ()), None)

    def test_spots(self):
        self.assertEqual(
            [breaks(ONE, OTHER), spot(ONE, OTHER, (1, 2))],
            [(((1, (3, 4)),), ((1, (4, 5)),)), (((1, 2), ((1, (1, 1)),)), ((1, 2, 3), ((1, (3, 2)),)))],
        )

    def test_stretches(self):
        self.assertEqual(
            [stretches((3, (((1, 2), (1, 1)),)), (3, (((1, 3), (1, 1)),))),
             past_star((4, ()), (4, (((1, 2), (1, 1)),)))],
            [(((1, 2),), ((1, 3),)), True],
        )

    def test_lengths(self):
        self.assertEqual(
            [len(open_chains(4, ((1, 2), (1, 2, 3)), ((2, 3), (2, 3, 4)))),
             always_star(4, ((1, 2), (3, 4)), ((1, 3), (2, 4)))],
            [2, True],
        )

    def test_lengths_error(self):
        with self.assertRaises(BadChain):
            lengths_for(4, ((1, 2),), ((1, 3),), ())

    def test_means(self):
        some = ((3, (((1, 2), (5, 1)),)), (3, (((1, 2), (3, 1)),)), (3, (((1, 3), (2, 1)),)))
        tree = (3, (((1, 2), (2, 1)),))
        self.assertEqual(
            [spider(some), is_mean(tree, some), square_sum(tree, some)],
            [(((1, 2), (2, 1)),), True, ((1, (26, 1)),)],
        )

    def test_pull(self):
        self.assertEqual(
            pull((3, (((1, 2), (1, 1)),)), ((3, (((1, 3), (2, 1)),)),)),
            (((1, 2), ((1, (3, 1)),)),),
        )

    def test_write(self):
        self.assertEqual(write((4, (((1, 2), (3, 2)), ((1, 2, 3), (5, 1))))), '4: 1 2 = 3/2; 1 2 3 = 5;')

    def test_read_error(self):
        with self.assertRaises(BadText):
            read('4: 2 1 = 3;')


if __name__ == "__main__":
    unittest.main()

"""The examples of the interface, as the document shows them."""

import unittest

from treespace.errors import BadSum
from treespace.roots import figures, plus, root, sign
from treespace.trees import around, fits, renamed, shapes


class ExamplesTest(unittest.TestCase):
    def test_roots(self):
        self.assertEqual(
            [root((8, 1)), sign(((1, (-3, 2)), (2, (1, 1)))), figures(((2, (1, 1)),), 4)],
            [((2, (2, 1)),), -1, 22],
        )

    def test_roots_error(self):
        with self.assertRaises(BadSum):
            plus(((4, (1, 1)),), ())

    def test_trees(self):
        self.assertEqual(
            [fits(4, (1, 2), (3, 4)), len(shapes(4, 2)), around(4, ((1, 2),))],
            [True, 15, [((1, 2), (1, 2, 3)), ((1, 2), (1, 2, 4)), ((1, 2), (3, 4))]],
        )

    def test_renamed(self):
        self.assertEqual(renamed((4, (((1, 2), (3, 1)),)), (4, 3, 2, 1)), (4, (((3, 4), (3, 1)),)))


if __name__ == "__main__":
    unittest.main()

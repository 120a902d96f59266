"""Trees and shares that are none, passed to the functions of spots, and which error comes first."""

import unittest

from treespace import spots
from treespace.errors import BadFraction, BadTree
from tests.test_trees_errors import ALL_NO_TREES, Case
from tests.values import odd_values

ONE = (4, (((1, 2), (3, 1)), ((1, 2, 3), (4, 1))))
OTHER = (4, (((2, 3), (1, 1)), ((2, 3, 4), (1, 1))))
CALLS = [spots.breaks, spots.stretches, spots.past_star]

NO_SHARES = [
    (1, 101), (100, 101), (0, 101), (1, 1000), (1, 10 ** 40), (-1, 1), (-1, 2), (-1, 100), (2, 1), (3, 2), (101, 100),
    (10 ** 40, 1), (2, 4), (0, 2), (2, 2), (100, 100), (50, 100), (0, 100), (0, 0), (1, 0), (0, -1), (-1, -2), (1, -2),
    (True, 1), (1, True), (False, 1), (True, 2), (True, True), (0, True), (1,), (1, 2, 1), (), [0, 1], [1, 2], 0, 1,
    "1/2", "0", "12", None, True, False, ("1", "2"), ("0", 1), (1, "2"), (1, None), (None, 1), ([1], 2), ((1, 2),),
    ((1, 2), 1), ((0, 1), (1, 1)), ((1, (1, 2)),), {1: 1, 2: 1}, {},
]


class TreeErrorsTest(Case):
    def all_bad(self, one, other):
        for call in CALLS:
            self.bad(BadTree, call, one, other)
        for share in ((1, 2), (0, 1), (2, 4), (1, 101), None, [], one):
            self.bad(BadTree, spots.spot, one, other, share)

    def test_no_trees(self):
        for tree in ALL_NO_TREES + odd_values():
            self.all_bad(tree, OTHER)
            self.all_bad(ONE, tree)
            self.all_bad(tree, tree)

    def test_unlike_numbers_of_tips(self):
        for many in range(3, 7):
            for more in range(3, 7):
                if many != more:
                    self.all_bad((many, (((1, 2), (1, 1)),)), (more, (((1, 2), (1, 1)),)))
                    self.all_bad((many, ()), (more, ()))


class ShareErrorsTest(Case):
    def test_no_shares(self):
        for share in NO_SHARES + odd_values():
            for one, other in ((ONE, OTHER), (ONE, ONE), ((3, ()), (3, ()))):
                self.bad(BadFraction, spots.spot, one, other, share)

    def test_all_shares_with_lows_up_to_100(self):
        one, other = (3, (((1, 2), (1, 1)),)), (3, (((1, 2), (2, 1)),))
        for low in range(1, 104):
            for top in range(-1, low + 2):
                if low <= 100 and 0 <= top <= low and not any(top % by == low % by == 0 for by in range(2, low + 1)):
                    self.assertEqual(spots.spot(one, other, (top, low)), (((1, 2), ((1, (low + top, low)),)),))
                else:
                    self.bad(BadFraction, spots.spot, one, other, (top, low))


if __name__ == "__main__":
    unittest.main()

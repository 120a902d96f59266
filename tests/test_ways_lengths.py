"""Points 5 and 7: the square of the way's length, its bounds, and what holds of shortest walks."""

import unittest
from decimal import localcontext

from treespace.roots import figures, plus, sign, times
from treespace.sums import sum_plus, sum_sign, sum_times
from treespace.trees import renamed
from treespace.ways import bounds, chain, square, unshared
from tests import tries
from tests.measures import MINUS, changes, fraction_sum, least_square, whole
from tests.values import kinds

LEFT = (4, (((1, 2), (3, 1)), ((1, 2, 3), (4, 1))))
RIGHT = (4, (((2, 3), (1, 1)), ((2, 3, 4), (1, 1))))


def fits_whole(one, other):
    """Whether the roads of two trees fit into one shape."""
    return all(tries.fit(lot, by) for lot, _ in one[1] for by, _ in other[1])


def with_double_lengths(tree):
    roads = []
    for lot, (top, low) in tree[1]:
        roads.append((lot, (top, 1) if low == 2 else (2 * top, 1)))
    return (tree[0], tuple(roads))


def not_longer(one, first, second):
    """Whether the root of a sum is not above the roots of two others together."""
    # With one <= first + second + 2 * root(first * second), told without that root.
    rest = sum_plus(one, sum_times(MINUS, sum_plus(first, second)))
    if sum_sign(rest) <= 0:
        return True
    fourfold = sum_times(whole(4), sum_times(first, second))
    return sum_sign(sum_plus(fourfold, sum_times(MINUS, sum_times(rest, rest)))) >= 0


class SquareTest(unittest.TestCase):
    def test_one_leg(self):
        one, other = (3, (((1, 2), (3, 1)),)), (3, (((1, 3), (5, 2)),))
        self.assertEqual(square(one, other), ((1, (121, 4)),))
        self.assertEqual(square(one, one), ())
        self.assertEqual(square(one, (3, ())), whole(9))
        self.assertEqual(square(one, (3, (((1, 2), (7, 2)),))), ((1, (1, 4)),))

    def test_legs_with_roots(self):
        one = (4, (((1, 2), (4, 1)), ((1, 2, 3), (3, 1))))
        self.assertEqual(square(one, RIGHT), ((1, (27, 1)), (2, (10, 1))))
        self.assertEqual(square(RIGHT, one), ((1, (27, 1)), (2, (10, 1))))
        one = (4, (((1, 2), (1, 1)), ((3, 4), (1, 1))))
        self.assertEqual(square(one, (4, (((1, 3), (1, 2)), ((2, 4), (1, 2))))), ((1, (9, 2)),))
        self.assertEqual(square(one, (4, (((1, 3), (1, 1)), ((2, 4), (2, 1))))), ((1, (7, 1)), (10, (2, 1))))

    def test_shared_roads_and_legs(self):
        one = (5, (((1, 2), (3, 1)), ((1, 2, 3), (4, 1)), ((4, 5), (1, 2))))
        other = (5, (((1, 2, 3), (7, 2)), ((2, 3), (1, 1))))
        self.assertEqual(square(one, other), ((1, (33, 2)),))

    def test_two_legs_with_the_same_root(self):
        one = (6, (((1, 2), (1, 1)), ((1, 2, 3), (9, 1)), ((4, 5), (2, 1)), ((4, 5, 6), (9, 1))))
        other = (6, (((1, 2, 3), (9, 1)), ((1, 3), (1, 1)), ((4, 5, 6), (9, 1)), ((4, 6), (1, 1))))
        self.assertEqual(square(one, other), whole(13))
        self.assertEqual(len(chain(one, other)), 2)

    def test_the_longest(self):
        one = (6, tuple((lot, (500, 1)) for lot in ((1, 2), (1, 2, 3), (1, 2, 3, 4), (1, 2, 3, 4, 5))))
        other = (6, tuple((lot, (999, 2)) for lot in ((1, 3, 4, 5, 6), (1, 6), (3, 4), (3, 4, 5))))
        self.assertEqual(square(one, other), fraction_sum((2 * tries.Fraction(1999, 2)) ** 2))

    def check(self, one, other):
        told = square(one, other)
        self.assertEqual(kinds(plus(told, ())), kinds(told))
        self.assertEqual(square(other, one), told, (one, other))
        with localcontext() as context:
            context.prec = 80
            near = figures(told, 100) - least_square(one, other) * 2 ** 100
            self.assertLessEqual(abs(near), 1, (one, other))
        return len(told) > 1

    def test_some_pairs(self):
        roots = 0
        for many in range(3, 7):
            for one, other in tries.some_pairs(many, 150, many + 50):
                roots += self.check(one, other)
        self.assertGreater(roots, 50)

    def test_trees_in_one_shape(self):
        found = 0
        for many in range(3, 7):
            for one, other in tries.some_pairs(many, 300, many + 60):
                if fits_whole(one, other):
                    found += len(one[1]) + len(other[1]) > 2
                    first, second = dict(one[1]), dict(other[1])
                    nothing = (0, 1)
                    squares = [(tries.value(first.get(lot, nothing)) - tries.value(second.get(lot, nothing))) ** 2
                               for lot in {**first, **second}]
                    self.assertEqual(square(one, other), fraction_sum(sum(squares)))
        self.assertGreater(found, 30)

    def test_lengths_twice_as_long(self):
        for many in range(3, 7):
            for one, other in tries.some_pairs(many, 60, many + 70):
                if all(top < 500 for _, (top, _) in one[1] + other[1]):
                    more = square(with_double_lengths(one), with_double_lengths(other))
                    self.assertEqual(more, times(whole(4), square(one, other)))

    def test_other_names_of_the_tips(self):
        for many in range(3, 7):
            order = tuple(range(many, 0, -1))
            for one, other in tries.some_pairs(many, 60, many + 80):
                self.assertEqual(square(renamed(one, order), renamed(other, order)), square(one, other))


class BoundsTest(unittest.TestCase):
    def test_example_in_whole(self):
        self.assertEqual(bounds(LEFT, RIGHT), (whole(27), ((1, (27, 1)), (2, (10, 1)))))

    def test_one_leg_reaches_the_upper_one(self):
        one, other = (3, (((1, 2), (3, 1)),)), (3, (((1, 3), (5, 2)),))
        self.assertEqual(bounds(one, other), (((1, (61, 4)),), ((1, (121, 4)),)))

    def test_with_shared_roads(self):
        one = (5, (((1, 2), (3, 1)), ((1, 2, 3), (4, 1)), ((4, 5), (1, 2))))
        other = (5, (((1, 2, 3), (7, 2)), ((2, 3), (1, 1))))
        self.assertEqual(bounds(one, other), (((1, (21, 2)),), ((1, (33, 2)),)))

    def test_all_roads_shared(self):
        one, other = (4, (((1, 2), (3, 1)),)), (4, (((1, 2), (1, 2)), ((3, 4), (5, 2))))
        self.assertEqual(bounds(one, other), (((1, (25, 2)),), ((1, (25, 2)),)))
        for many in range(3, 7):
            self.assertEqual(bounds((many, ()), (many, ())), ((), ()))
            for one, other in tries.some_pairs(many, 60, many + 90):
                self.assertEqual(bounds(one, one), ((), ()))
                self.assertEqual(square(one, one), ())
                self.assertEqual(bounds(one, (many, ())), (square(one, (many, ())),) * 2)

    def test_some_pairs(self):
        inside = 0
        for many in range(3, 7):
            for one, other in tries.some_pairs(many, 200, many + 100):
                below, above = bounds(one, other)
                gone, come = (tries.size_square(side) for side in tries.unshared_roads(one, other))
                self.assertEqual(below, fraction_sum(changes(one, other) + gone + come))
                wider = plus(above, times(MINUS, below))
                self.assertGreaterEqual(sign(wider), 0)
                self.assertEqual(times(wider, wider), fraction_sum(4 * gone * come))
                told = square(one, other)
                signs = [sign(plus(told, times(MINUS, below))), sign(plus(above, times(MINUS, told)))]
                self.assertEqual(signs[0], 1 if unshared(one, other) else 0, (one, other))
                self.assertEqual(signs[1], 1 if len(chain(one, other)) > 1 else 0, (one, other))
                inside += signs == [1, 1]
        self.assertGreater(inside, 30)


class ShortestTest(unittest.TestCase):
    def test_no_way_is_longer_than_one_over_a_third_tree(self):
        for many in range(3, 7):
            pairs = tries.some_pairs(many, 60, many + 110)
            for (one, other), (third, fourth) in zip(pairs, pairs[1:]):
                for by in (third, fourth, (many, ())):
                    told = [square(one, other), square(one, by), square(by, other)]
                    for at in range(3):
                        turned = told[at:] + told[:at]
                        self.assertTrue(not_longer(*turned), (one, other, by))

    def test_over_a_tree_on_the_way_it_is_as_long(self):
        one, other, star = (3, (((1, 2), (3, 1)),)), (3, (((1, 3), (5, 2)),)), (3, ())
        for tree, told in ((star, [9, 25]), ((3, (((1, 2), (1, 1)),)), [4, 49])):
            self.assertEqual(square(one, tree), whole(told[0]))
            self.assertEqual(square(tree, other), ((1, (told[1], 4)),))
        # Half of the way is the place of the first leg; there 1, 2, 3 has 1/2 left, and there is no other road.
        place = (4, (((1, 2, 3), (1, 2)),))
        one, other = (4, (((1, 2), (1, 1)), ((1, 2, 3), (3, 2)))), (4, (((2, 3), (1, 1)), ((2, 3, 4), (1, 2))))
        self.assertEqual([square(one, place), square(place, other), square(one, other)],
                         [whole(2), whole(2), whole(8)])

    def test_the_way_back_is_as_long(self):
        self.assertEqual(square(LEFT, RIGHT), square(RIGHT, LEFT))
        self.assertEqual(bounds(LEFT, RIGHT), bounds(RIGHT, LEFT))


if __name__ == "__main__":
    unittest.main()

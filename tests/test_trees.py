"""Lots, shapes and trees: what fits, shapes, around, shape_of, renamed and joined give."""

import unittest
from itertools import combinations, permutations

from treespace.trees import around, fits, joined, renamed, shape_of, shapes
from tests.values import kinds

NUMBERS = {3: [1, 3], 4: [1, 10, 15], 5: [1, 25, 105, 105], 6: [1, 56, 490, 1260, 945]}
SIX = (6, (((1, 2), (1, 2)), ((1, 2, 6), (500, 1)), ((3, 4, 5), (999, 2)), ((4, 5), (7, 1))))


def lots(many):
    """All lots, told without the program."""
    tips = range(1, many + 1)
    return sorted(lot for size in range(2, many) for lot in combinations(tips, size))


def do_fit(one, other):
    """Whether two lots fit, told without the program."""
    one, other = set(one), set(other)
    return one <= other or other <= one or not one & other


def told_shapes(many, roads):
    """All shapes, told without the program."""
    fitting = {(one, other) for one, other in combinations(lots(many), 2) if do_fit(one, other)}
    return [some for some in combinations(lots(many), roads) if all(pair in fitting for pair in combinations(some, 2))]


def some_tree(many, shape):
    """A tree of a shape, each road of another length."""
    lengths = [(1, 2), (3, 1), (5, 2), (500, 1)]
    return many, tuple(zip(shape, lengths))


class FitsTest(unittest.TestCase):
    def test_all_pairs(self):
        for many in range(3, 7):
            for one in lots(many):
                for other in lots(many):
                    self.assertIs(fits(many, one, other), do_fit(one, other), (many, one, other))

    def test_each_way(self):
        self.assertIs(fits(4, (1, 2), (1, 2)), True)
        self.assertIs(fits(4, (1, 2), (1, 2, 3)), True)
        self.assertIs(fits(4, (1, 3, 4), (1, 4)), True)
        self.assertIs(fits(5, (1, 5), (2, 3, 4)), True)
        self.assertIs(fits(4, (1, 2), (2, 3)), False)
        self.assertIs(fits(4, (1, 2, 3), (2, 3, 4)), False)
        self.assertIs(fits(6, (1, 2, 3, 4), (4, 5)), False)


class ShapesTest(unittest.TestCase):
    def test_how_many(self):
        for many, numbers in NUMBERS.items():
            self.assertEqual([len(shapes(many, roads)) for roads in range(many - 1)], numbers)

    def test_no_roads(self):
        for many in range(3, 7):
            self.assertEqual(shapes(many, 0), [()])

    def test_all_of_three(self):
        self.assertEqual(shapes(3, 1), [((1, 2),), ((1, 3),), ((2, 3),)])

    def test_all_of_four(self):
        self.assertEqual(shapes(4, 1), [
            ((1, 2),), ((1, 2, 3),), ((1, 2, 4),), ((1, 3),), ((1, 3, 4),), ((1, 4),), ((2, 3),), ((2, 3, 4),),
            ((2, 4),), ((3, 4),),
        ])
        self.assertEqual(shapes(4, 2), [
            ((1, 2), (1, 2, 3)), ((1, 2), (1, 2, 4)), ((1, 2), (3, 4)), ((1, 2, 3), (1, 3)), ((1, 2, 3), (2, 3)),
            ((1, 2, 4), (1, 4)), ((1, 2, 4), (2, 4)), ((1, 3), (1, 3, 4)), ((1, 3), (2, 4)), ((1, 3, 4), (1, 4)),
            ((1, 3, 4), (3, 4)), ((1, 4), (2, 3)), ((2, 3), (2, 3, 4)), ((2, 3, 4), (2, 4)), ((2, 3, 4), (3, 4)),
        ])

    def test_all_in_their_order(self):
        for many in range(3, 7):
            for roads in range(many - 1):
                found = shapes(many, roads)
                self.assertEqual(found, told_shapes(many, roads), (many, roads))
                self.assertEqual(found, sorted(found))


class AroundTest(unittest.TestCase):
    def test_no_roads(self):
        for many in range(3, 7):
            self.assertEqual(around(many, ()), shapes(many, many - 2))

    def test_a_whole_shape(self):
        for many in range(3, 7):
            for shape in shapes(many, many - 2):
                self.assertEqual(around(many, shape), [shape])

    def test_a_lot_ahead_of_and_behind_the_others(self):
        self.assertEqual(around(4, ((2, 3),)), [((1, 2, 3), (2, 3)), ((1, 4), (2, 3)), ((2, 3), (2, 3, 4))])
        self.assertEqual(around(4, ((3, 4),)), [((1, 2), (3, 4)), ((1, 3, 4), (3, 4)), ((2, 3, 4), (3, 4))])
        self.assertEqual(around(4, ((1, 2, 3),)), [((1, 2), (1, 2, 3)), ((1, 2, 3), (1, 3)), ((1, 2, 3), (2, 3))])

    def test_all_shapes(self):
        for many in range(3, 6):
            self.check(many, [shape for roads in range(many - 1) for shape in shapes(many, roads)])

    def test_six_tips(self):
        self.check(6, shapes(6, 1) + shapes(6, 2)[::7] + shapes(6, 3)[::11])

    def check(self, many, some):
        whole = [(set(other), other) for other in shapes(many, many - 2)]
        for shape in some:
            told = [other for held, other in whole if set(shape) <= held]
            self.assertEqual(around(many, shape), told, (many, shape))


class ShapeOfTest(unittest.TestCase):
    def test_all_shapes(self):
        for many in range(3, 7):
            for roads in range(many - 1):
                for shape in shapes(many, roads):
                    self.assertEqual(shape_of(some_tree(many, shape)), shape)

    def test_no_road(self):
        for many in range(3, 7):
            self.assertEqual(shape_of((many, ())), ())

    def test_all_lengths(self):
        for length in [(1, 1), (1, 2), (500, 1), (999, 2), (499, 1), (3, 2)]:
            self.assertEqual(shape_of((3, (((1, 3), length),))), ((1, 3),))


class RenamedTest(unittest.TestCase):
    def test_no_road(self):
        for many in range(3, 7):
            for order in permutations(range(1, many + 1)):
                self.assertEqual(renamed((many, ()), order), (many, ()))

    def test_same_names(self):
        self.assertEqual(renamed(SIX, (1, 2, 3, 4, 5, 6)), SIX)

    def test_tips_and_roads_are_put_in_order(self):
        self.assertEqual(renamed(SIX, (6, 5, 4, 3, 2, 1)), (
            6, (((1, 5, 6), (500, 1)), ((2, 3), (7, 1)), ((2, 3, 4), (999, 2)), ((5, 6), (1, 2)))))
        self.assertEqual(renamed((3, (((1, 2), (1, 2)),)), (2, 3, 1)), (3, (((2, 3), (1, 2)),)))
        self.assertEqual(renamed((3, (((1, 2), (1, 2)),)), (3, 1, 2)), (3, (((1, 3), (1, 2)),)))

    def test_which_way_the_names_go(self):
        # Tip 1 is called 2, tip 2 is called 3, tip 3 is called 4, tip 4 is called 1.
        one = (4, (((1, 2), (1, 1)), ((1, 2, 3), (2, 1))))
        self.assertEqual(renamed(one, (2, 3, 4, 1)), (4, (((2, 3), (1, 1)), ((2, 3, 4), (2, 1)))))
        self.assertEqual(renamed(one, (4, 1, 2, 3)), (4, (((1, 2, 4), (2, 1)), ((1, 4), (1, 1)))))

    def test_all_names_of_all_shapes(self):
        for many in range(3, 6):
            for shape in shapes(many, many - 2) + shapes(many, 1):
                tree = some_tree(many, shape)
                for order in permutations(range(1, many + 1)):
                    told = sorted((tuple(sorted(order[tip - 1] for tip in lot)), length) for lot, length in tree[1])
                    self.assertEqual(renamed(tree, order), (many, tuple(told)))

    def test_names_back(self):
        for order in permutations(range(1, 7)):
            back = tuple(order.index(tip) + 1 for tip in range(1, 7))
            self.assertEqual(renamed(renamed(SIX, order), back), SIX)


class JoinedTest(unittest.TestCase):
    def test_no_road(self):
        self.assertEqual(joined((3, ()), (3, ()), (1, 2)), (6, (((1, 2, 3), (1, 2)), ((4, 5, 6), (1, 2)))))

    def test_roads_are_put_in_order(self):
        one, other, third = [(3, ((lot, length),)) for lot, length in
                             [((1, 2), (3, 1)), ((1, 3), (5, 2)), ((2, 3), (7, 1))]]
        self.assertEqual(joined(one, other, (4, 1)), (
            6, (((1, 2), (3, 1)), ((1, 2, 3), (4, 1)), ((4, 5, 6), (4, 1)), ((4, 6), (5, 2)))))
        self.assertEqual(joined(other, one, (4, 1)), (
            6, (((1, 2, 3), (4, 1)), ((1, 3), (5, 2)), ((4, 5), (3, 1)), ((4, 5, 6), (4, 1)))))
        self.assertEqual(joined(third, third, (500, 1)), (
            6, (((1, 2, 3), (500, 1)), ((2, 3), (7, 1)), ((4, 5, 6), (500, 1)), ((5, 6), (7, 1)))))

    def test_one_road(self):
        one = (3, (((2, 3), (1, 2)),))
        self.assertEqual(joined(one, (3, ()), (1, 1)), (
            6, (((1, 2, 3), (1, 1)), ((2, 3), (1, 2)), ((4, 5, 6), (1, 1)))))
        self.assertEqual(joined((3, ()), one, (1, 1)), (
            6, (((1, 2, 3), (1, 1)), ((4, 5, 6), (1, 1)), ((5, 6), (1, 2)))))

    def test_it_is_a_tree(self):
        for one in shapes(3, 0) + shapes(3, 1):
            for other in shapes(3, 0) + shapes(3, 1):
                both = joined(some_tree(3, one), some_tree(3, other), (999, 2))
                self.assertEqual(len(shape_of(both)), 2 + len(one) + len(other))


class KindsTest(unittest.TestCase):
    def test_shapes_are_tuples_in_a_list(self):
        for found in [shapes(5, 2), shapes(3, 0), around(5, ((1, 2),)), around(3, ())]:
            self.assertIs(type(found), list)
            for shape in found:
                self.assertNotIn("list", str(kinds(shape)))

    def test_trees_are_tuples(self):
        for found in [renamed(SIX, (6, 5, 4, 3, 2, 1)), joined((3, ()), (3, ()), (1, 2)), shape_of(SIX)]:
            self.assertNotIn("list", str(kinds(found)))


if __name__ == "__main__":
    unittest.main()

"""What is no number of tips, no lot, no shape, no tree, no order, no length, and which error comes first."""

import unittest

from treespace.errors import BadFraction, BadLot, BadNumber, BadShape, BadTree
from treespace.trees import around, fits, joined, renamed, shape_of, shapes
from tests.values import odd_values

NO_NUMBERS = [2, 7, 0, 1, -3, -4, 10 ** 40, True, False, None, "3", "", (), (3,), [3], [], {}, {3: 3}]

NO_LOTS = [
    (), (1,), (4,), (1, 2, 3, 4), (1, 2, 3, 4, 5), (2, 1), (1, 3, 2), (1, 1), (1, 2, 2), (0, 1), (-1, 2), (1, 5),
    (3, 4, 5), (True, 2), (True, 2, 3), (False, 1), (1, None), (1, "2"), ("1", "2"), ((1,), 2), (1, [2]), (1, {}),
    (None, None), [1, 2], [1, 2, 3], {1: 1, 2: 2}, "12", 12, 1, None, True, ((1, 2), (1, 2, 3)), ((1, 2),),
]

# Each of these is no shape of four tips, although most have lots.
NO_SHAPES = [
    [], [(1, 2)], {}, {(1, 2): 1}, "", 0, None, False, (1, 2), (1,), ([1, 2],), ("12",), ({1: 1, 2: 2},), (None,),
    ((),), ((1,),), ((1, 2, 3, 4),), ((2, 1),), ((1, 1),), ((0, 1),), ((1, 5),), ((True, 2),), ((1, None),),
    ((1, 2), (1, 2)), ((1, 2, 3), (1, 2)), ((3, 4), (1, 2)), ((2, 3), (1, 4)), ((1, 2), (2, 3)), ((1, 2), (1, 3)),
    ((1, 2, 3), (2, 3, 4)), ((1, 2), (1, 2, 3), (1, 2, 4)), ((1, 2), (1, 2, 3), (3, 4)), ((1, 2), (1, 2, 3), (1, 3)),
    ((1, 2), None), ((1, 2), ()), ((1, 2), (4,)), ((1, 2), [3, 4]),
]

NO_LENGTHS = [
    (0, 1), (-1, 1), (-1, 2), (501, 1), (1001, 2), (10 ** 40, 1), (1, 3), (1, 4), (2, 2), (4, 2), (1000, 2), (1, 0),
    (1, -1), (0, 2), (True, 1), (1, True), (True, True), (1,), (1, 1, 1), (), [1, 1], [1, 2], 1, 500, "1", "11", None,
    True, ("1", 1), (1, "1"), (1, None), ([1], 1), (1, (1,)), {1: 1, 2: 1}, (499, 3),
]

NO_TREES = [
    (4,), (4, (), ()), [4, ()], (4, []), (4, None), (4, 0), (4, ""), (4, {}), (4, False), {4: (), 5: ()}, ((), 4), (),
    (2, ()), (7, ()), (0, ()), (-4, ()), (True, ()), (None, ()), ("4", ()), ((4,), ()), ([], ()), ({}, ()),
    (4, ((1, 2), (1, 1))), (4, ([(1, 2), (1, 1)],)), (4, (((1, 2),),)), (4, (((1, 2), (1, 1), 1),)), (4, ((),)),
    (4, (None,)), (4, ("ab",)), (4, ({1: 1, 2: 2},)), (4, [((1, 2), (1, 1))]), (4, {(1, 2): (1, 1)}), (4, ((1, 2),)),
    (3, (((1, 2, 3), (1, 1)),)), (3, (((1, 4), (1, 1)),)), (3, (((1, 2), (1, 1)), ((1, 3), (1, 1)))),
    (4, (((1, 2), (1, 1)), ((1, 2), (2, 1)))), (4, (((3, 4), (1, 1)), ((1, 2), (1, 1)))),
]


def trees_with(lengths, lots, some):
    """Trees of four tips that would be trees, were it not for a length, a lot or a shape."""
    out = []
    for length in lengths:
        out.append((4, (((3, 4), length),)))
        out.append((4, (((1, 2), (1, 1)), ((3, 4), length))))
    for lot in lots:
        out.append((4, ((lot, (1, 1)),)))
    for shape in some:
        if isinstance(shape, tuple):
            out.append((4, tuple((lot, (1, 1)) for lot in shape)))
    return out


ALL_NO_TREES = NO_TREES + trees_with(NO_LENGTHS, NO_LOTS, NO_SHAPES)
ONE = (3, (((1, 2), (3, 1)),))


class Case(unittest.TestCase):
    def bad(self, error, call, *told):
        with self.assertRaises(error, msg=repr(told)) as caught:
            call(*told)
        self.assertIs(type(caught.exception), error, repr(told))


class FitsErrorsTest(Case):
    def test_no_number_of_tips(self):
        for many in NO_NUMBERS + odd_values():
            self.bad(BadNumber, fits, many, (1, 2), (1, 2))
            self.bad(BadNumber, fits, many, None, ())

    def test_no_lots(self):
        for lot in NO_LOTS + odd_values():
            self.bad(BadLot, fits, 4, lot, (1, 2))
            self.bad(BadLot, fits, 4, (1, 2), lot)
            self.bad(BadLot, fits, 4, lot, lot)

    def test_lots_of_other_numbers_of_tips(self):
        self.bad(BadLot, fits, 3, (1, 2, 3), (1, 2))
        self.bad(BadLot, fits, 3, (1, 2), (1, 4))
        self.bad(BadLot, fits, 6, (1, 7), (1, 2))
        self.bad(BadLot, fits, 6, (1, 2), (1, 2, 3, 4, 5, 6))
        self.assertIs(fits(6, (1, 2, 3, 4, 5), (1, 6)), False)
        self.assertIs(fits(5, (1, 2, 3, 4), (3, 4)), True)


class ShapesErrorsTest(Case):
    def test_no_number_of_tips(self):
        for many in NO_NUMBERS + odd_values():
            self.bad(BadNumber, shapes, many, 0)

    def test_no_number_of_roads(self):
        for many in range(3, 7):
            for roads in [-1, many - 1, many, 10 ** 40, True, False, None, "1", (), (1,), [1], {}, {1: 1}]:
                self.bad(BadNumber, shapes, many, roads)
        for roads in odd_values():
            self.bad(BadNumber, shapes, 4, roads)


class AroundErrorsTest(Case):
    def test_no_number_of_tips(self):
        for many in NO_NUMBERS + odd_values():
            self.bad(BadNumber, around, many, ())
            self.bad(BadNumber, around, many, None)
            self.bad(BadNumber, around, many, ((1, 2), (2, 3)))

    def test_no_shapes(self):
        for shape in NO_SHAPES + odd_values():
            self.bad(BadShape, around, 4, shape)

    def test_shapes_of_other_numbers_of_tips(self):
        self.bad(BadShape, around, 3, ((1, 2), (1, 2, 3)))
        self.bad(BadShape, around, 3, ((1, 4),))
        self.bad(BadShape, around, 5, ((1, 2), (1, 2, 3, 4, 5)))
        self.assertEqual(around(5, ((1, 2), (1, 2, 3), (1, 2, 3, 4))), [((1, 2), (1, 2, 3), (1, 2, 3, 4))])


class TreeErrorsTest(Case):
    def test_no_trees(self):
        for tree in ALL_NO_TREES + odd_values():
            self.bad(BadTree, shape_of, tree)
            self.bad(BadTree, renamed, tree, (1, 2, 3, 4))
            self.bad(BadTree, joined, tree, ONE, (1, 1))
            self.bad(BadTree, joined, ONE, tree, (1, 1))

    def test_more_roads_than_there_may_be(self):
        self.bad(BadTree, shape_of, (3, (((1, 2), (1, 1)), ((1, 2), (1, 1)))))
        self.bad(BadTree, shape_of, (4, tuple((lot, (1, 1)) for lot in ((1, 2), (1, 2, 3), (3, 4)))))


class RenamedErrorsTest(Case):
    def test_no_orders(self):
        bad = [(), (1,), (1, 2), (1, 2, 3, 4), (1, 2, 2), (1, 1, 1), (0, 1, 2), (2, 3, 4), (-1, 2, 3), (1, 2, None),
               (True, 2, 3), (3, 2, True), ("1", "2", "3"), (1, 2, "3"), ((1,), 2, 3), (1, 2, [3]), (1, {}, 3),
               [1, 2, 3], {1: 1, 2: 2, 3: 3}, "123", 123, None, False, (1, 2, 3, 3), ((1, 2, 3),)]
        for order in bad + odd_values():
            self.bad(BadNumber, renamed, ONE, order)
            self.bad(BadNumber, renamed, (3, ()), order)

    def test_orders_of_other_numbers_of_tips(self):
        self.bad(BadNumber, renamed, (4, ()), (1, 2, 3))
        self.bad(BadNumber, renamed, (6, ()), (1, 2, 3, 4, 5))
        self.bad(BadNumber, renamed, (6, ()), (1, 2, 3, 4, 5, 7))

    def test_the_tree_comes_first(self):
        for tree in ALL_NO_TREES:
            self.bad(BadTree, renamed, tree, None)


class JoinedErrorsTest(Case):
    def test_trees_with_other_numbers_of_tips(self):
        for many in (4, 5, 6):
            for roads in ((), (((1, 2), (1, 1)),)):
                self.bad(BadTree, joined, (many, roads), ONE, (1, 1))
                self.bad(BadTree, joined, ONE, (many, roads), (1, 1))

    def test_no_lengths(self):
        for length in NO_LENGTHS + odd_values():
            self.bad(BadFraction, joined, ONE, ONE, length)
            self.bad(BadFraction, joined, (3, ()), (3, ()), length)

    def test_the_leftmost_comes_first(self):
        for length in (None, (0, 1), [1, 1]):
            self.bad(BadTree, joined, (4, ()), ONE, length)
            self.bad(BadTree, joined, ONE, (4, ()), length)
            self.bad(BadTree, joined, None, None, length)


class LeftmostTest(Case):
    def test_the_number_of_tips_comes_first(self):
        self.bad(BadNumber, fits, 7, (2, 1), (1, 2))
        self.bad(BadNumber, around, "4", ((2, 1),))
        self.bad(BadNumber, shapes, 2, None)


if __name__ == "__main__":
    unittest.main()

"""What is no number of tips, no side and no leg, and which error comes first."""

import unittest

from treespace.covers import cheaper, shares
from treespace.errors import BadLeg, BadNumber
from tests.test_trees_errors import ALL_NO_TREES, NO_LENGTHS, NO_LOTS, NO_NUMBERS, NO_SHAPES, Case
from tests.values import odd_values

ONE = (((1, 2), (3, 1)), ((1, 2, 3), (4, 1)))
OTHER = (((2, 3), (1, 1)), ((2, 3, 4), (1, 1)))


def no_sides():
    """Values that are no side of four tips."""
    out = [(), [], None, 0, "", {}, list(ONE), [ONE], {ONE[0]: ONE[1]}, ONE[0], (4, ONE), (ONE,), ONE[::-1]]
    out.extend(tree[1] for tree in ALL_NO_TREES if isinstance(tree, tuple) and tree[:1] == (4,) and len(tree) == 2)
    out.extend((((1, 2), length),) for length in NO_LENGTHS)
    out.extend((ONE[0], ((1, 2, 3), length)) for length in NO_LENGTHS)
    out.extend(((lot, (1, 1)),) for lot in NO_LOTS)
    out.extend(tuple((lot, (1, 1)) for lot in shape) for shape in NO_SHAPES if isinstance(shape, tuple))
    out.extend([
        (((1, 2), (3, 1)), ((1, 2), (3, 1))), (((1, 2), (3, 1)), ((1, 3), (4, 1))), ([(1, 2), (3, 1)],),
        (((1, 2), [3, 1]),), (([1, 2], (3, 1)),), (((True, 2), (3, 1)),), (((1, 2), (True, 1)),),
        (((1, 2), (3, True)),), (((1, 2), (3, 1), ()),), (((1, 2),),), (((3, 1), (1, 2)),), (((1, 2), 3),),
        (((1, 2), ((1, (3, 1)),)),), (((1, 2), "3"),), (((1, 2), None),), (None,), (True,), (ONE[0], None),
    ])
    return out


class SideErrorsTest(Case):
    def both(self, error, *told):
        self.bad(error, cheaper, *told)
        self.bad(error, shares, *told)

    def test_no_number_of_tips(self):
        for many in NO_NUMBERS + odd_values():
            self.both(BadNumber, many, ONE, OTHER)

    def test_the_number_of_tips_comes_first(self):
        for many in NO_NUMBERS:
            self.both(BadNumber, many, (), OTHER)
            self.both(BadNumber, many, ONE, None)
            self.both(BadNumber, many, ONE, ONE)
            self.both(BadNumber, many, [], {})

    def test_no_sides(self):
        for side in no_sides() + odd_values():
            self.both(BadLeg, 4, side, OTHER)
            self.both(BadLeg, 4, ONE, side)
            self.both(BadLeg, 4, side, side)

    def test_wrong_lengths(self):
        for length in ((0, 1), (-1, 2), (1001, 2), (501, 1), (1, 3), (2, 2)):
            self.both(BadLeg, 3, (((1, 2), length),), (((1, 3), (1, 1)),))
            self.both(BadLeg, 3, (((1, 3), (1, 1)),), (((1, 2), length),))

    def test_sides_of_other_numbers_of_tips(self):
        self.both(BadLeg, 3, ONE, OTHER)
        self.both(BadLeg, 4, (((1, 5), (1, 1)),), OTHER)
        self.both(BadLeg, 4, (((1, 2, 3, 4), (1, 1)),), (((4, 5), (1, 1)),))
        self.assertIsNotNone(shares(5, (((1, 2, 3, 4), (1, 1)),), (((4, 5), (1, 1)),)))


class LegErrorsTest(Case):
    def no_leg(self, many, one, other):
        """Check two sides, each given by its lots, that are no leg, in both orders."""
        sides = [tuple((lot, (2, 1)) for lot in lots) for lots in (one, other)]
        for call in (cheaper, shares):
            self.bad(BadLeg, call, many, sides[0], sides[1])
            self.bad(BadLeg, call, many, sides[1], sides[0])

    def test_lots_that_fit(self):
        self.no_leg(4, ((1, 2),), ((3, 4),))
        self.no_leg(4, ((1, 2),), ((1, 2, 3),))
        self.no_leg(3, ((1, 2),), ((1, 2),))

    def test_one_lot_that_fits_all_of_the_other_side(self):
        self.no_leg(4, ((1, 2), (1, 2, 3)), ((2, 3),))
        self.no_leg(4, ((1, 2), (3, 4)), ((1, 2, 3),))
        self.no_leg(6, ((1, 2), (1, 2, 3), (1, 2, 3, 4), (5, 6)), ((1, 3), (2, 4)))

    def test_lots_that_both_sides_have(self):
        self.no_leg(4, ((1, 2), (1, 2, 3)), ((1, 2, 3), (2, 3)))
        self.no_leg(5, ((1, 2), (3, 4)), ((1, 3), (3, 4)))
        self.no_leg(4, ((1, 2), (1, 2, 3)), ((1, 2), (1, 2, 3)))

    def test_legs_are_taken(self):
        for many, one, other in ((4, ONE, OTHER), (5, ONE, OTHER), (6, OTHER, ONE)):
            self.assertIsNotNone(cheaper(many, one, other) or shares(many, one, other))


if __name__ == "__main__":
    unittest.main()

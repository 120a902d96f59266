"""What is no number of tips, no shape and no chain that comes openly, and which error comes first."""

import unittest

from treespace.errors import BadChain, BadNumber, BadShape
from treespace.lengths import always_star, lengths_for, open_chains
from tests.test_papers import all_bent
from tests.test_trees_errors import NO_NUMBERS, NO_SHAPES, Case
from tests.values import kinds, odd_values, own_copy

LEFT, RIGHT = ((1, 2), (1, 2, 3)), ((2, 3), (2, 3, 4))
CHAIN = ((LEFT, RIGHT),)


class ShapeErrorsTest(Case):
    def all_bad(self, error, *told):
        self.bad(error, open_chains, *told)
        self.bad(error, always_star, *told)
        for thing in (CHAIN, (), None, []):
            self.bad(error, lengths_for, *told, thing)

    def test_no_number_of_tips(self):
        for many in NO_NUMBERS + odd_values():
            self.all_bad(BadNumber, many, LEFT, RIGHT)

    def test_the_number_of_tips_comes_first(self):
        for many in NO_NUMBERS:
            self.all_bad(BadNumber, many, None, RIGHT)
            self.all_bad(BadNumber, many, LEFT, [])
            self.all_bad(BadNumber, many, "", {})

    def test_no_shapes(self):
        for shape in NO_SHAPES + odd_values():
            self.all_bad(BadShape, 4, shape, RIGHT)
            self.all_bad(BadShape, 4, LEFT, shape)
            self.all_bad(BadShape, 4, shape, shape)

    def test_shapes_of_other_numbers_of_tips(self):
        self.all_bad(BadShape, 3, ((1, 2),), RIGHT)
        self.all_bad(BadShape, 3, LEFT, ((1, 2),))
        self.all_bad(BadShape, 5, LEFT, ((1, 2, 3, 4, 6),))
        self.all_bad(BadShape, 4, ((1, 2, 3, 4),), RIGHT)


class ChainErrorsTest(Case):
    def refused(self, thing, many=4, one=LEFT, other=RIGHT):
        before = own_copy(thing)
        self.bad(BadChain, lengths_for, many, one, other, thing)
        self.assertEqual(kinds(thing), kinds(before))

    def test_values_of_every_kind(self):
        for thing in odd_values() + [(), 0, 1, LEFT, (LEFT, RIGHT), (CHAIN,), list(CHAIN), CHAIN * 2, CHAIN + ((),)]:
            self.refused(thing)
        for thing in odd_values() + [0, 1, [], "", {}, False, ((),), CHAIN]:
            self.refused(thing, 4, LEFT, LEFT)
            self.refused(thing, 3, (), ())

    def test_bent_chains(self):
        for told in open_chains(4, LEFT, RIGHT):
            for thing in all_bent(told):
                self.refused(thing)

    def test_true_in_place_of_1(self):
        thing = ((((True, 2), (1, 2, 3)), RIGHT),)
        self.assertEqual(thing, CHAIN)
        self.refused(thing)

    def test_chains_of_other_shapes(self):
        self.refused(open_chains(4, RIGHT, LEFT)[0])
        self.refused(CHAIN, 4, RIGHT, LEFT)
        self.refused(CHAIN, 4, LEFT, RIGHT[:1])
        self.refused(CHAIN, 5, LEFT + ((4, 5),), RIGHT[:1])
        self.refused((), 4, ((1, 2),), ((1, 3),))
        self.refused(((((1, 2),), ((1, 3),)),), 4, ((1, 2),), ((2, 3),))

    def test_legs_in_an_order_that_never_comes(self):
        first, last = (((1, 2),), ((2, 3),)), (((1, 2, 3),), ((2, 3, 4),))
        self.assertIn((first, last), open_chains(4, LEFT, RIGHT))
        self.refused((last, first))
        self.refused(((((1, 2),), ((2, 3, 4),)), (((1, 2, 3),), ((2, 3),))))
        self.refused((first,))
        self.refused((last,))

    def test_shared_lots_are_in_no_leg(self):
        one, other = ((1, 2), (1, 2, 3)), ((1, 2, 3), (1, 3))
        lengths_for(4, one, other, ((((1, 2),), ((1, 3),)),))
        self.refused(((one, other),), 4, one, other)
        self.refused((), 4, one, other)

    def test_a_deep_value(self):
        deep = ()
        for _ in range(5000):
            deep = (deep, deep)
        for thing in (deep, (deep,), ((deep, deep),), ((LEFT, deep),)):
            # The message would be too long to be shown.
            with self.assertRaises(BadChain):
                lengths_for(4, LEFT, RIGHT, thing)


if __name__ == "__main__":
    unittest.main()

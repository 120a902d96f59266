"""What is no fraction, no sum, no number of bits, and which error comes first."""

import unittest

from treespace.errors import BadFraction, BadNumber, BadSum, TreeError
from treespace.roots import figures, plus, root, sign, times
from tests.values import odd_values

GOOD = ((1, (-1, 2)), (5, (1, 2)))
TWENTY = tuple((radicand, (1, 1)) for radicand in
               [2, 3, 5, 7, 11, 13, 17, 19, 23, 29, 31, 37, 41, 43, 47, 53, 59, 61, 67, 71])

NO_FRACTIONS = [
    (2, 4), (0, 2), (-2, 4), (3, 3), (1, 0), (0, 0), (1, -1), (-1, -2), (0, -1), (1,), (1, 1, 1), (), [1, 1], [2, 1],
    (True, 1), (1, True), (False, 1), (0, True), (True, True), ("1", 1), (1, "1"), (None, 1), (1, None), "11", 1, 0,
    ((1, 1), 1), (1, (1, 1)), ([1], 1), (1, [1]), ({}, 1), (1, {}), {1: 1, 2: 1}, ((1,), (1,)),
]

# Each of these is no sum; the comment tells by which part of the definition.
NO_SUMS = [
    [], [(2, (1, 1))], {}, {2: (1, 1)}, "", 0, None, False, (0, 1),
    ([2, (1, 1)],), ((2,),), ((2, (1, 1), 1),), ((),), (2, (1, 1)), (None,), ("ab",), ({2: 1, 3: 1},),
    ((2, [1, 1]),), ((2, 1),), ((2, None),), ((2, "11"),),
    ((2, (True, 1)),), ((2, (1, True)),), ((2, (2, 4)),), ((2, (1, -1)),), ((2, (1, 0)),), ((2, (1,)),),
    ((2, (1, 1, 1)),), ((2, (None, 1)),), ((2, (1, "1")),), ((2, ([], 1)),), ((2, (1, {})),),
    ((2, (0, 1)),), ((1, (0, 1)),), ((1, (1, 1)), (2, (0, 1))),
    ((True, (1, 1)),), ((None, (1, 1)),), (("2", (1, 1)),), (((2,), (1, 1)),), (([], (1, 1)),), (({}, (1, 1)),),
    ((0, (1, 1)),), ((-1, (1, 1)),), ((-2, (1, 1)),), ((False, (1, 1)),),
    ((4, (1, 1)),), ((8, (1, 1)),), ((9, (1, 1)),), ((12, (1, 1)),), ((18, (1, 1)),), ((25, (1, 1)),), ((49, (1, 1)),),
    ((50, (1, 1)),), ((2 * 169, (1, 1)),), ((10 ** 15, (1, 1)),), ((2 ** 49, (1, 1)),), ((3 ** 31, (1, 1)),),
    ((31622743 ** 2, (1, 1)),), ((2 * 22360651 ** 2, (1, 1)),), ((99991 ** 3, (1, 1)),), ((99991 ** 2 * 3, (1, 1)),),
    ((1, (1, 1)), (4, (1, 1))), ((2, (1, 1)), (3, (1, 1)), (27, (1, 1))),
    ((2, (1, 1)), (2, (1, 1))), ((3, (1, 1)), (2, (1, 1))), ((2, (1, 1)), (1, (1, 1))), ((1, (1, 1)), (1, (-1, 1))),
    ((1, (1, 1)), (5, (1, 1)), (3, (1, 1))), ((1, (1, 1)), (2, [1, 1])), ((1, (1, 1)), None), ((1, (1, 1)), ()),
    ((10 ** 15 + 1, (1, 1)),), ((10 ** 15 + 3, (1, 1)),), ((10 ** 40 + 1, (1, 1)),),
    TWENTY + ((73, (1, 1)),), ((1, (1, 1)),) + TWENTY,
]


class RootErrorsTest(unittest.TestCase):
    def test_no_fractions(self):
        for one in NO_FRACTIONS + odd_values():
            with self.assertRaises(BadFraction, msg=repr(one)):
                root(one)

    def test_beyond_the_limits(self):
        for one in [(-1, 1), (-1, 1000), (10 ** 9 + 1, 1), (10 ** 12 + 1, 1000), (2 * 10 ** 9 + 1, 2), (1, 1001),
                    (1, 10 ** 9), (10 ** 400, 1), (10 ** 9 * 1001 - 1, 1001)]:
            with self.assertRaises(BadFraction, msg=repr(one)):
                root(one)

    def test_at_the_limits(self):
        for one in [(0, 1), (10 ** 9, 1), (10 ** 12 - 1, 1000), (2 * 10 ** 9 - 1, 2), (1, 1000)]:
            self.assertEqual(times(root(one), root(one)), ((1, one),) if one[0] else ())


class SumErrorsTest(unittest.TestCase):
    def bad(self, call, *told):
        with self.assertRaises(BadSum, msg=repr(told)):
            call(*told)

    def test_no_sums(self):
        for one in NO_SUMS + odd_values():
            self.bad(sign, one)
            self.bad(figures, one, 0)
            for call in (plus, times):
                self.bad(call, one, GOOD)
                self.bad(call, GOOD, one)
                self.bad(call, (), one)
                self.bad(call, one, ())
                self.bad(call, one, one)

    def test_twenty_pairs_and_wide_radicands_are_sums(self):
        near_one = (10 ** 400, 10 ** 400 + 1)
        for one in [TWENTY, ((10 ** 15 - 2, (1, 1)),), ((999999999999989, (1, 1)),), ((1, near_one),)]:
            self.assertEqual(sign(one), 1)
            self.assertEqual(plus(one, ()), one)
            self.assertEqual(plus((), one), one)
            self.assertEqual(times(one, ()), ())
            self.assertGreaterEqual(figures(one, 0), 0)

    def test_what_comes_out_may_not_go_in_where_it_is_too_large(self):
        product = times(TWENTY, TWENTY)
        self.bad(sign, product)
        wide = times(((10 ** 15 - 2, (1, 1)),), ((999999999999989, (1, 1)),))
        self.bad(sign, wide)
        self.bad(plus, (), wide)


class FiguresErrorsTest(unittest.TestCase):
    def test_no_number_of_bits(self):
        for bits in [-1, 201, 10 ** 40, True, False, None, "1", (), (1,), [1], {1: 1}, ((1, 1),)]:
            for one in ((), GOOD, ((1, (1, 1)),)):
                with self.assertRaises(BadNumber, msg=repr(bits)):
                    figures(one, bits)

    def test_the_sum_comes_first(self):
        for bits in (-1, 201, True, None, "1"):
            with self.assertRaises(BadSum):
                figures([], bits)
            with self.assertRaises(BadSum):
                figures(((4, (1, 1)),), bits)

    def test_all_are_tree_errors(self):
        for call, told in [(root, (1,)), (plus, (1, 1)), (times, (1, 1)), (sign, (1,)), (figures, ((), -1))]:
            with self.assertRaises(TreeError):
                call(*told)


if __name__ == "__main__":
    unittest.main()

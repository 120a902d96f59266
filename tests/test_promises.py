"""Point 1: what holds of every function."""

import unittest

from treespace import roots, trees
from treespace.errors import TreeError
from tests.values import kinds, odd_values, own_copy

GOLDEN = ((1, (1, 2)), (5, (1, 2)))
ONE = (3, (((1, 2), (3, 1)),))
FOUR = (4, (((1, 2), (3, 1)), ((1, 2, 3), (5, 2))))

# Each function with arguments that it takes.
CALLS = [
    (roots.root, ((8, 3),)), (roots.plus, (GOLDEN, GOLDEN)), (roots.times, (GOLDEN, GOLDEN)), (roots.sign, (GOLDEN,)),
    (roots.figures, (GOLDEN, 20)), (trees.fits, (4, (1, 2), (2, 3))), (trees.shapes, (4, 1)),
    (trees.shapes, (3, 0)), (trees.around, (4, ((1, 2),))), (trees.around, (4, ((1, 2), (3, 4)))),
    (trees.shape_of, (FOUR,)), (trees.renamed, (FOUR, (2, 3, 4, 1))), (trees.joined, (ONE, ONE, (1, 2))),
]


class PromisesTest(unittest.TestCase):
    def test_equal_arguments_have_equal_answers(self):
        for call, told in CALLS:
            self.assertEqual(kinds(call(*told)), kinds(call(*own_copy(told))), call.__name__)

    def test_arguments_are_not_modified(self):
        for call, told in CALLS:
            before = own_copy(told)
            call(*told)
            self.assertEqual(kinds(told), kinds(before), call.__name__)

    def test_wrong_arguments_are_not_modified(self):
        for call, told in CALLS:
            for at in range(len(told)):
                for value in odd_values():
                    before = own_copy(value)
                    with self.assertRaises(TreeError, msg=(call.__name__, at, value)):
                        call(*told[:at], value, *told[at + 1:])
                    self.assertEqual(kinds(value), kinds(before))

    def test_lists_in_arguments_are_not_modified(self):
        for call, told in CALLS:
            for at in range(len(told)):
                if not isinstance(told[at], tuple):
                    continue
                value = list(told[at])
                with self.assertRaises(TreeError, msg=(call.__name__, at)):
                    call(*told[:at], value, *told[at + 1:])
                self.assertEqual(kinds(value), kinds(list(told[at])))

    def test_returned_lists_are_new(self):
        for call, told in CALLS:
            first = call(*told)
            if not isinstance(first, list):
                continue
            kept = own_copy(first)
            second = call(*told)
            self.assertIsNot(first, second)
            first.append("more")
            first[0] = None
            self.assertEqual(second, kept)
            self.assertEqual(call(*told), kept)

    def test_arguments_may_be_named(self):
        self.assertEqual(roots.root(one=(4, 1)), ((1, (2, 1)),))
        self.assertEqual(roots.plus(one=GOLDEN, other=()), GOLDEN)
        self.assertEqual(roots.times(one=GOLDEN, other=()), ())
        self.assertEqual(roots.sign(one=()), 0)
        self.assertEqual(roots.figures(one=GOLDEN, bits=0), 1)
        self.assertIs(trees.fits(many=3, one=(1, 2), other=(1, 3)), False)
        self.assertEqual(trees.shapes(many=3, roads=0), [()])
        self.assertEqual(trees.around(many=3, shape=((1, 2),)), [((1, 2),)])
        self.assertEqual(trees.shape_of(tree=ONE), ((1, 2),))
        self.assertEqual(trees.renamed(tree=ONE, order=(1, 2, 3)), ONE)
        self.assertEqual(trees.joined(one=(3, ()), other=(3, ()), length=(1, 1))[0], 6)


if __name__ == "__main__":
    unittest.main()

"""Point 1: what holds of every function."""

import unittest

from treespace import covers, papers, roots, trees, ways
from treespace.errors import TreeError
from tests.values import kinds, odd_values, own_copy

GOLDEN = ((1, (1, 2)), (5, (1, 2)))
ONE = (3, (((1, 2), (3, 1)),))
FOUR = (4, (((1, 2), (3, 1)), ((1, 2, 3), (5, 2))))
TURNED = (4, (((2, 3), (1, 1)), ((2, 3, 4), (1, 1))))
LOW_FIRST = (((1, 2), (1, 1)), ((1, 2, 3), (4, 1)))

# Each function with arguments that it takes.
CALLS = [
    (roots.root, ((8, 3),)), (roots.plus, (GOLDEN, GOLDEN)), (roots.times, (GOLDEN, GOLDEN)), (roots.sign, (GOLDEN,)),
    (roots.figures, (GOLDEN, 20)), (trees.fits, (4, (1, 2), (2, 3))), (trees.shapes, (4, 1)),
    (trees.shapes, (3, 0)), (trees.around, (4, ((1, 2),))), (trees.around, (4, ((1, 2), (3, 4)))),
    (trees.shape_of, (FOUR,)), (trees.renamed, (FOUR, (2, 3, 4, 1))), (trees.joined, (ONE, ONE, (1, 2))),
    (covers.cheaper, (4, LOW_FIRST, TURNED[1])), (covers.cheaper, (4, FOUR[1], TURNED[1])),
    (covers.shares, (4, LOW_FIRST, TURNED[1])), (covers.shares, (4, FOUR[1], TURNED[1])),
    (ways.shared, (FOUR, (4, (((1, 2), (1, 1)),)))), (ways.chain, (FOUR, TURNED)), (ways.square, (FOUR, TURNED)),
    (ways.bounds, (FOUR, TURNED)), (ways.unshared, (FOUR, TURNED)), (papers.way_paper, (FOUR, TURNED)),
    (papers.shows_way, (FOUR, TURNED, papers.way_paper(FOUR, TURNED))),
]


def limited(call, told):
    """The places of the arguments for which not just any value is allowed."""
    return range(2) if call == papers.shows_way else range(len(told))


class PromisesTest(unittest.TestCase):
    def test_equal_arguments_have_equal_answers(self):
        for call, told in CALLS:
            self.assertEqual(kinds(call(*told)), kinds(call(*own_copy(told))), call.__name__)

    def test_arguments_are_not_modified(self):
        for call, told in CALLS:
            before = own_copy(told)
            call(*told)
            self.assertEqual(kinds(told), kinds(before), call.__name__)

    def test_wrong_arguments_are_not_modified(self):
        for call, told in CALLS:
            for at in limited(call, told):
                for value in odd_values():
                    before = own_copy(value)
                    with self.assertRaises(TreeError, msg=(call.__name__, at, value)):
                        call(*told[:at], value, *told[at + 1:])
                    self.assertEqual(kinds(value), kinds(before))

    def test_lists_in_arguments_are_not_modified(self):
        for call, told in CALLS:
            for at in limited(call, told):
                if not isinstance(told[at], tuple):
                    continue
                value = list(told[at])
                with self.assertRaises(TreeError, msg=(call.__name__, at)):
                    call(*told[:at], value, *told[at + 1:])
                self.assertEqual(kinds(value), kinds(list(told[at])))

    def test_returned_lists_are_new(self):
        for call, told in CALLS:
            first = call(*told)
            if not isinstance(first, list):
                continue
            kept = own_copy(first)
            second = call(*told)
            self.assertIsNot(first, second)
            first.append("more")
            first[0] = None
            self.assertEqual(second, kept)
            self.assertEqual(call(*told), kept)

    def test_arguments_may_be_named(self):
        self.assertEqual(roots.root(one=(4, 1)), ((1, (2, 1)),))
        self.assertEqual(roots.plus(one=GOLDEN, other=()), GOLDEN)
        self.assertEqual(roots.times(one=GOLDEN, other=()), ())
        self.assertEqual(roots.sign(one=()), 0)
        self.assertEqual(roots.figures(one=GOLDEN, bits=0), 1)
        self.assertIs(trees.fits(many=3, one=(1, 2), other=(1, 3)), False)
        self.assertEqual(trees.shapes(many=3, roads=0), [()])
        self.assertEqual(trees.around(many=3, shape=((1, 2),)), [((1, 2),)])
        self.assertEqual(trees.shape_of(tree=ONE), ((1, 2),))
        self.assertEqual(trees.renamed(tree=ONE, order=(1, 2, 3)), ONE)
        self.assertEqual(trees.joined(one=(3, ()), other=(3, ()), length=(1, 1))[0], 6)

    def test_any_thing_may_be_shown(self):
        for value in odd_values() + [list(papers.way_paper(FOUR, TURNED))]:
            before = own_copy(value)
            self.assertIs(papers.shows_way(FOUR, TURNED, value), False)
            self.assertEqual(kinds(value), kinds(before))

    def test_arguments_of_legs_and_ways_may_be_named(self):
        self.assertIsNotNone(covers.cheaper(many=4, one=LOW_FIRST, other=TURNED[1]))
        self.assertIsNone(covers.shares(many=4, one=LOW_FIRST, other=TURNED[1]))
        told = {"one": FOUR, "other": TURNED}
        self.assertEqual(ways.shared(**told), ())
        self.assertEqual(len(ways.chain(**told)), 1)
        self.assertEqual(ways.square(**told), ways.bounds(**told)[1])
        self.assertEqual(ways.unshared(**told), 4)
        self.assertIs(papers.shows_way(**told, thing=papers.way_paper(**told)), True)


if __name__ == "__main__":
    unittest.main()

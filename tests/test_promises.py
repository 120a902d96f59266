"""Point 1: what holds of every function."""

import unittest
from itertools import product

from treespace import covers, errors, lengths, means, papers, roots, spots, texts, trees, ways
from treespace.errors import TreeError
from tests.test_language import INTERFACE
from tests.values import kinds, odd_values, own_copy

GOLDEN = ((1, (1, 2)), (5, (1, 2)))
ONE = (3, (((1, 2), (3, 1)),))
FOUR = (4, (((1, 2), (3, 1)), ((1, 2, 3), (5, 2))))
TURNED = (4, (((2, 3), (1, 1)), ((2, 3, 4), (1, 1))))
LOW_FIRST = (((1, 2), (1, 1)), ((1, 2, 3), (4, 1)))

SHAPES = (((1, 2), (1, 2, 3)), ((2, 3), (2, 3, 4)))
SOME = (FOUR, TURNED, (4, ()), FOUR)

# Each function with arguments that it takes.
CALLS = [
    (roots.root, ((8, 3),)), (roots.plus, (GOLDEN, GOLDEN)), (roots.times, (GOLDEN, GOLDEN)), (roots.sign, (GOLDEN,)),
    (roots.figures, (GOLDEN, 20)), (trees.fits, (4, (1, 2), (2, 3))), (trees.shapes, (4, 1)),
    (trees.shapes, (3, 0)), (trees.around, (4, ((1, 2),))), (trees.around, (4, ((1, 2), (3, 4)))),
    (trees.shape_of, (FOUR,)), (trees.renamed, (FOUR, (2, 3, 4, 1))), (trees.joined, (ONE, ONE, (1, 2))),
    (covers.cheaper, (4, LOW_FIRST, TURNED[1])), (covers.cheaper, (4, FOUR[1], TURNED[1])),
    (covers.shares, (4, LOW_FIRST, TURNED[1])), (covers.shares, (4, FOUR[1], TURNED[1])),
    (ways.shared, (FOUR, (4, (((1, 2), (1, 1)),)))), (ways.chain, (FOUR, TURNED)), (ways.square, (FOUR, TURNED)),
    (ways.bounds, (FOUR, TURNED)), (ways.unshared, (FOUR, TURNED)), (papers.way_paper, (FOUR, TURNED)),
    (papers.shows_way, (FOUR, TURNED, papers.way_paper(FOUR, TURNED))),
    (spots.breaks, (FOUR, TURNED)), (spots.spot, (FOUR, TURNED, (1, 3))), (spots.stretches, (FOUR, TURNED)),
    (spots.past_star, (FOUR, TURNED)), (lengths.open_chains, (4, *SHAPES)), (lengths.open_chains, (4, (), ())),
    (lengths.lengths_for, (4, *SHAPES, (SHAPES,))), (lengths.always_star, (4, *SHAPES)),
    (means.square_sum, (FOUR, SOME)), (means.pull, (FOUR, SOME)), (means.is_mean, (FOUR, SOME)),
    (means.spider, ((ONE, (3, ())),)), (texts.write, (FOUR,)), (texts.read, ("4: 1 2 = 3; 1 2 3 = 5/2;",)),
]

# The errors of the arguments of each function, in turn; the last one of shows_way may be anything.
ERRORS = {
    roots: {"root": "Fraction", "plus": "Sum Sum", "times": "Sum Sum", "sign": "Sum", "figures": "Sum Number"},
    trees: {
        "fits": "Number Lot Lot", "shapes": "Number Number", "around": "Number Shape", "shape_of": "Tree",
        "renamed": "Tree Number", "joined": "Tree Tree Fraction",
    },
    covers: {"cheaper": "Number Leg Leg", "shares": "Number Leg Leg"},
    ways: {
        "shared": "Tree Tree", "chain": "Tree Tree", "square": "Tree Tree", "bounds": "Tree Tree",
        "unshared": "Tree Tree",
    },
    papers: {"way_paper": "Tree Tree", "shows_way": "Tree Tree"},
    spots: {"breaks": "Tree Tree", "spot": "Tree Tree Fraction", "stretches": "Tree Tree", "past_star": "Tree Tree"},
    lengths: {
        "open_chains": "Number Shape Shape", "lengths_for": "Number Shape Shape Chain",
        "always_star": "Number Shape Shape",
    },
    means: {"square_sum": "Tree Trees", "pull": "Tree Trees", "is_mean": "Tree Trees", "spider": "Trees"},
    texts: {"write": "Tree", "read": "Text"},
}

# Numbers that are beyond all limits, in all places where numbers may stand.
BEYOND = [
    10 ** 40, -1, (10 ** 40, 1), (1, 10 ** 40), (-1, 3), ((10 ** 16, (1, 1)),), ((0, (1, 1)),), (1, 1009), (0, 1, 2),
    ((1, 7), (2, 7)), (7, ()), (2, ()), (4, (((1, 7), (1, 1)),)), (4, (((1, 2), (501, 1)),)), (4, (((1, 2), (1, 3)),)),
    (((1, 2), (501, 1)),), (((1, 7), (1, 1)),), ((7, ()),) * 2, ((4, ()),) * 7, ((((1, 7),), ((2, 7),)),), "7:", "2:",
    "4: 1 2 = 501;", "4: 1 7 = 1;",
]


def limited(call, told):
    """The places of the arguments for which not just any value is allowed."""
    return range(2) if call == papers.shows_way else range(len(told))


class PromisesTest(unittest.TestCase):
    def test_equal_arguments_have_equal_answers(self):
        for call, told in CALLS:
            self.assertEqual(kinds(call(*told)), kinds(call(*own_copy(told))), call.__name__)

    def test_arguments_are_not_modified(self):
        for call, told in CALLS:
            before = own_copy(told)
            call(*told)
            self.assertEqual(kinds(told), kinds(before), call.__name__)

    def test_wrong_arguments_are_not_modified(self):
        for call, told in CALLS:
            for at in limited(call, told):
                for value in odd_values():
                    before = own_copy(value)
                    with self.assertRaises(TreeError, msg=(call.__name__, at, value)):
                        call(*told[:at], value, *told[at + 1:])
                    self.assertEqual(kinds(value), kinds(before))

    def wrong_in(self, module, call, told, wrong):
        """Try wrong values at some places: a dict of values by places."""
        words = ERRORS[module][call.__name__].split()
        known = getattr(errors, "Bad" + words[min(wrong)])
        arguments = [wrong.get(at, value) for at, value in enumerate(told)]
        with self.assertRaises(known, msg=(call.__name__, arguments)) as caught:
            call(*arguments)
        self.assertIs(type(caught.exception), known, (call.__name__, arguments))

    def test_each_function_is_called_here(self):
        known = {(name, word) for name, words in INTERFACE.items() if name != "errors.py" for word in words}
        self.assertEqual({(call.__module__.split(".")[1] + ".py", call.__name__) for call, _ in CALLS}, known)
        listed = {(module.__name__.split(".")[1] + ".py", word) for module in ERRORS for word in ERRORS[module]}
        self.assertEqual(listed, known)

    def test_the_error_of_each_argument(self):
        for module in ERRORS:
            for call, told in CALLS:
                if call.__module__ == module.__name__:
                    for at, value in product(limited(call, told), odd_values() + BEYOND):
                        self.wrong_in(module, call, told, {at: value})

    def test_the_leftmost_error_is_raised(self):
        odd = [None, True, "text", [], {}, ((((),),),), 10 ** 40]
        for module in ERRORS:
            for call, told in CALLS:
                if call.__module__ != module.__name__:
                    continue
                places = limited(call, told)
                for left, right in product(places, places):
                    for value, other in product(odd, odd):
                        if left < right:
                            self.wrong_in(module, call, told, {left: value, right: other})
                for value in odd:
                    self.wrong_in(module, call, told, {at: value for at in places})

    def test_lists_in_arguments_are_not_modified(self):
        for call, told in CALLS:
            for at in limited(call, told):
                if not isinstance(told[at], tuple):
                    continue
                value = list(told[at])
                with self.assertRaises(TreeError, msg=(call.__name__, at)):
                    call(*told[:at], value, *told[at + 1:])
                self.assertEqual(kinds(value), kinds(list(told[at])))

    def test_returned_lists_are_new(self):
        for call, told in CALLS:
            first = call(*told)
            if not isinstance(first, list):
                continue
            kept = own_copy(first)
            second = call(*told)
            self.assertIsNot(first, second)
            first.append("more")
            first[0] = None
            self.assertEqual(second, kept)
            self.assertEqual(call(*told), kept)

    def test_arguments_may_be_named(self):
        self.assertEqual(roots.root(one=(4, 1)), ((1, (2, 1)),))
        self.assertEqual(roots.plus(one=GOLDEN, other=()), GOLDEN)
        self.assertEqual(roots.times(one=GOLDEN, other=()), ())
        self.assertEqual(roots.sign(one=()), 0)
        self.assertEqual(roots.figures(one=GOLDEN, bits=0), 1)
        self.assertIs(trees.fits(many=3, one=(1, 2), other=(1, 3)), False)
        self.assertEqual(trees.shapes(many=3, roads=0), [()])
        self.assertEqual(trees.around(many=3, shape=((1, 2),)), [((1, 2),)])
        self.assertEqual(trees.shape_of(tree=ONE), ((1, 2),))
        self.assertEqual(trees.renamed(tree=ONE, order=(1, 2, 3)), ONE)
        self.assertEqual(trees.joined(one=(3, ()), other=(3, ()), length=(1, 1))[0], 6)

    def test_any_thing_may_be_shown(self):
        for value in odd_values() + [list(papers.way_paper(FOUR, TURNED))]:
            before = own_copy(value)
            self.assertIs(papers.shows_way(FOUR, TURNED, value), False)
            self.assertEqual(kinds(value), kinds(before))

    def test_arguments_of_legs_and_ways_may_be_named(self):
        self.assertIsNotNone(covers.cheaper(many=4, one=LOW_FIRST, other=TURNED[1]))
        self.assertIsNone(covers.shares(many=4, one=LOW_FIRST, other=TURNED[1]))
        told = {"one": FOUR, "other": TURNED}
        self.assertEqual(ways.shared(**told), ())
        self.assertEqual(len(ways.chain(**told)), 1)
        self.assertEqual(ways.square(**told), ways.bounds(**told)[1])
        self.assertEqual(ways.unshared(**told), 4)
        self.assertIs(papers.shows_way(**told, thing=papers.way_paper(**told)), True)

    def test_arguments_of_spots_lengths_means_and_texts_may_be_named(self):
        told = {"one": FOUR, "other": TURNED}
        self.assertEqual(len(spots.breaks(**told)), 1)
        self.assertEqual(len(spots.spot(**told, share=(1, 3))), 2)
        self.assertEqual(spots.stretches(**told), SHAPES)
        self.assertIs(spots.past_star(**told), True)
        told = {"many": 4, "one": SHAPES[0], "other": SHAPES[1]}
        self.assertEqual(len(lengths.open_chains(**told)), 2)
        self.assertEqual(len(lengths.lengths_for(**told, told=(SHAPES,))), 2)
        self.assertIs(lengths.always_star(**told), False)
        self.assertEqual(means.square_sum(tree=FOUR, some=(FOUR,)), ())
        self.assertEqual(means.pull(tree=FOUR, some=(FOUR,)), (((1, 2), ()), ((1, 2, 3), ())))
        self.assertIs(means.is_mean(tree=FOUR, some=(FOUR,)), True)
        self.assertEqual(means.spider(some=(ONE,)), ONE[1])
        self.assertEqual(texts.write(tree=ONE), "3: 1 2 = 3;")
        self.assertEqual(texts.read(text="3: 1 2 = 3;"), ONE)


if __name__ == "__main__":
    unittest.main()

"""Point 10: the chains that come openly between two shapes, lengths for them, and shapes with a star between them."""

import unittest
from fractions import Fraction

from treespace.errors import BadChain
from treespace.lengths import always_star, lengths_for, open_chains
from treespace.spots import past_star
from treespace.trees import shape_of, shapes
from treespace.ways import chain, shared
from tests import tries
from tests.measures import pair
from tests.test_ways import beside
from tests.values import kinds

LEFT, RIGHT = ((1, 2), (1, 2, 3)), ((2, 3), (2, 3, 4))
WHOLE = ((LEFT, RIGHT),)
PARTED = ((((1, 2),), ((2, 3),)), (((1, 2, 3),), ((2, 3, 4),)))
# Of these, 1, 2 crosses 1, 3 alone, and 4, 5 crosses 4, 6 alone.
BESIDE = (((1, 2), (4, 5)), ((1, 3), (4, 6)))
# Of these, 1, 2 crosses 1, 3 alone, and 1, 2, 3, 4 crosses 1, 2, 3, 5 alone.
INSIDE = (((1, 2), (1, 2, 3, 4)), ((1, 2, 3, 5), (1, 3)))


def some_shapes(many, count, seed):
    """So many pairs of shapes with so many tips, most of them with as many lots as there is room for."""
    turn = tries.numbers(seed)
    rooms = list(range(many - 1)) + [many - 2] * many
    out = []
    for _ in range(count):
        out.append(tuple(tries.some_shape(turn, many, tries.pick(turn, rooms)) for _ in range(2)))
    return out


def many_shapes(count, seed):
    """Triples (many, shape, shape): all with three tips, all that have no other names with four, and some with more."""
    three = [shape for roads in range(2) for shape in shapes(3, roads)]
    four = [shape for roads in range(3) for shape in shapes(4, roads)]
    firsts = [(), ((1, 2),), ((1, 2, 3),), ((1, 2), (1, 2, 3)), ((1, 2), (3, 4))]
    out = [(3, one, other) for one in three for other in three]
    out.extend((4, one, other) for one in firsts for other in four)
    out.extend((many, one, other) for many in (5, 6) for one, other in some_shapes(many, count, many + seed))
    return out


def with_wide_lengths(turn, shape):
    """Roads with any lengths that point 10 speaks of, far apart and with large lows."""
    return tuple((lot, pair(Fraction(1 + next(turn) % 10 ** 6, 1 + next(turn) % 1000))) for lot in shape)


def subsets(roads):
    return [first for first, _ in tries.parted(roads)] + [roads]


def all_unlike(one, other):
    """Whether the quotients of the sizes of any roads of two trees that they don't share are all unlike."""
    gone, come = tries.unshared_roads(one, other)
    if not gone:
        return True
    told = [tries.quotient((first, second)) for first in subsets(gone) for second in subsets(come)]
    return len(set(told)) == len(told)


def sides_of(trees, told):
    """The legs of a chain with the lengths of two trees."""
    first, second = [dict(roads) for _, roads in trees]
    return [(tuple((lot, first[lot]) for lot in gone), tuple((lot, second[lot]) for lot in come))
            for gone, come in told]


def is_openly(trees, told):
    """Whether a chain stays the chain if the lengths of two trees change a little: nothing is just alike."""
    legs = sides_of(trees, told)
    quotients = [tries.quotient(leg) for leg in legs]
    if any(low >= high for low, high in zip(quotients, quotients[1:])):
        return False
    partings = [parting for leg in legs for parting in tries.all_partings(*leg)]
    return all(tries.quotient(first) > tries.quotient(last) for first, last in partings)


class OpenChainsTest(unittest.TestCase):
    def test_some_by_hand(self):
        self.assertEqual(open_chains(4, LEFT, RIGHT), [PARTED, WHOLE])
        self.assertEqual(open_chains(4, RIGHT, LEFT), [
            ((((2, 3), (2, 3, 4)), LEFT),), ((((2, 3, 4),), ((1, 2, 3),)), (((2, 3),), ((1, 2),))),
        ])
        self.assertEqual(open_chains(3, ((1, 2),), ((1, 3),)), [((((1, 2),), ((1, 3),)),)])
        self.assertEqual(open_chains(4, ((1, 2), (3, 4)), ((1, 3), (2, 4))), [((((1, 2), (3, 4)), ((1, 3), (2, 4))),)])

    def test_lots_that_fall_apart_are_never_one_leg_openly(self):
        first, second = (((1, 2),), ((1, 3),)), (((4, 5),), ((4, 6),))
        self.assertEqual(open_chains(6, *BESIDE), [(first, second), (second, first)])
        first, second = (((1, 2),), ((1, 3),)), (((1, 2, 3, 4),), ((1, 2, 3, 5),))
        self.assertEqual(open_chains(5, *INSIDE), [(first, second), (second, first)])

    def test_no_lots(self):
        for many in range(3, 7):
            self.assertEqual(open_chains(many, (), ()), [()])
            for shape in shapes(many, 1):
                self.assertEqual(open_chains(many, (), shape), [()])
                self.assertEqual(open_chains(many, shape, ()), [()])

    def test_lots_in_common(self):
        self.assertEqual(open_chains(4, LEFT, LEFT), [()])
        self.assertEqual(open_chains(4, LEFT, ((1, 2, 3), (2, 3))), [((((1, 2),), ((2, 3),)),)])
        for many in range(3, 7):
            for shape in shapes(many, many - 2)[::7]:
                self.assertEqual(open_chains(many, shape, shape), [()])

    def test_lots_that_fit_all_lots_of_the_other_one(self):
        self.assertEqual(open_chains(4, ((1, 2),), ((3, 4),)), [()])
        self.assertEqual(open_chains(5, ((1, 2), (4, 5)), ((1, 3),)), [((((1, 2),), ((1, 3),)),)])
        self.assertEqual(open_chains(5, ((1, 3),), ((1, 2), (4, 5))), [((((1, 3),), ((1, 2),)),)])

    def test_unlike_numbers_of_lots(self):
        four = ((1, 2), (1, 2, 3), (1, 2, 3, 4), (1, 2, 3, 4, 5))
        self.assertEqual(open_chains(6, four, ((1, 6),)), [((four, ((1, 6),)),)])
        self.assertEqual(open_chains(6, ((1, 6),), four), [((((1, 6),), four),)])
        self.assertEqual(open_chains(6, four, ((3, 4),)), [((((1, 2, 3),), ((3, 4),)),)])

    def test_they_rise_and_none_comes_twice(self):
        several = 0
        for many, one, other in many_shapes(150, 400):
            told = open_chains(many, one, other)
            self.assertIsInstance(told, list)
            self.assertNotIn("list", str(kinds(tuple(told))))
            self.assertTrue(all(low < high for low, high in zip(told, told[1:])))
            self.assertGreater(len(told), 0)
            several += len(told) > 2
        self.assertGreater(several, 50)

    def test_the_way_back_has_them_turned_round(self):
        for many, one, other in many_shapes(60, 410):
            turned = [tuple((come, gone) for gone, come in reversed(told)) for told in open_chains(many, one, other)]
            self.assertEqual(open_chains(many, other, one), sorted(turned))

    def check_lengths(self, many, one, other, lengths):
        """Whether these lengths are all unlike; then their chain is in the list."""
        trees = [(many, roads) for roads in lengths]
        if not all_unlike(*trees):
            return False
        known = tries.all_chains(*trees)
        self.assertEqual(len(known), 1)
        self.assertIn(known[0], open_chains(many, one, other), trees)
        return len(known[0]) > 0

    def test_chains_of_lengths_that_are_all_unlike(self):
        turn, found = tries.numbers(420), 0
        for many, one, other in many_shapes(60, 420):
            for _ in range(5):
                lengths = [with_wide_lengths(turn, shape) for shape in (one, other)]
                found += self.check_lengths(many, one, other, lengths)
        self.assertGreater(found, 300)

    def test_chains_of_trees_whose_lengths_are_all_unlike(self):
        found = 0
        for many in range(3, 7):
            for one, other in tries.some_pairs(many, 100, many + 430):
                if all_unlike(one, other):
                    self.assertIn(chain(one, other), open_chains(many, shape_of(one), shape_of(other)))
                    found += chain(one, other) != ()
        self.assertGreater(found, 50)


class LengthsForTest(unittest.TestCase):
    def test_each_open_chain_has_lengths(self):
        for many, one, other in many_shapes(150, 440):
            for told in open_chains(many, one, other):
                trees = lengths_for(many, one, other, told)
                self.assertIsInstance(trees, tuple)
                self.assertEqual([tree[0] for tree in trees], [many, many])
                self.assertEqual([shape_of(tree) for tree in trees], [one, other])
                self.assertEqual(chain(*trees), told)
                self.assertEqual(tries.all_chains(*trees), [told])

    def test_it_is_the_chain_for_all_lengths_near_these(self):
        for many, one, other in many_shapes(100, 450):
            for told in open_chains(many, one, other):
                self.assertTrue(is_openly(lengths_for(many, one, other, told), told), told)

    def test_the_most_legs(self):
        first = ((1, 2), (1, 2, 3), (1, 2, 3, 4), (1, 2, 3, 4, 5))
        second = ((2, 3), (2, 3, 4), (2, 3, 4, 5), (2, 3, 4, 5, 6))
        told = open_chains(6, first, second)
        self.assertEqual(sorted({len(legs) for legs in told}), [1, 2, 3, 4])
        for legs in told:
            self.assertEqual(chain(*lengths_for(6, first, second, legs)), legs)

    def test_no_legs(self):
        one, other = lengths_for(4, ((1, 2),), ((3, 4),), ())
        self.assertEqual([shape_of(one), shape_of(other)], [((1, 2),), ((3, 4),)])
        self.assertEqual(lengths_for(5, (), (), ()), ((5, ()), (5, ())))
        self.assertEqual([shape_of(tree) for tree in lengths_for(4, LEFT, (), ())], [LEFT, ()])

    def test_chains_that_come_for_some_alike_quotients_alone(self):
        for many, leg in ((6, BESIDE), (5, INSIDE)):
            one, other = [(many, tuple((lot, (1, 1)) for lot in shape)) for shape in leg]
            self.assertEqual(chain(one, other), (leg,))
            with self.assertRaises(BadChain):
                lengths_for(many, *leg, (leg,))

    def test_each_chain_comes_openly_or_is_refused(self):
        lengths = ((1, 1), (2, 1), (1, 2), (4, 1))
        codes = [[lengths[(code >> at) % 4] for at in (0, 2, 4, 6)] for code in range(256)]
        pairs = [beside(told[:2], told[2:]) for told in codes]
        for many in range(4, 7):
            pairs.extend(tries.some_pairs(many, 200, many + 460))
        refused = 0
        for one, other in pairs:
            told, some = chain(one, other), (one[0], shape_of(one), shape_of(other))
            if told in open_chains(*some):
                self.assertEqual(chain(*lengths_for(*some, told)), told)
                continue
            self.assertFalse(is_openly((one, other), told))
            with self.assertRaises(BadChain):
                lengths_for(*some, told)
            refused += 1
        self.assertGreater(refused, 30)


class AlwaysStarTest(unittest.TestCase):
    def test_some_by_hand(self):
        self.assertIs(always_star(4, ((1, 2), (3, 4)), ((1, 3), (2, 4))), True)
        self.assertIs(always_star(4, LEFT, RIGHT), False)
        self.assertIs(always_star(3, ((1, 2),), ((2, 3),)), True)
        self.assertIs(always_star(3, ((1, 2),), ((1, 2),)), False)
        self.assertIs(always_star(4, ((1, 2), (1, 2, 3)), ((1, 4),)), True)
        self.assertIs(always_star(4, ((1, 2), (1, 2, 3)), ((2, 3),)), False)
        self.assertIs(always_star(4, ((1, 2),), ((3, 4),)), False)
        # One leg for alike quotients alone, and two legs else.
        self.assertIs(always_star(6, *BESIDE), False)

    def test_no_lots(self):
        for many in range(3, 7):
            self.assertIs(always_star(many, (), ()), True)
            for shape in shapes(many, many - 2)[::5]:
                self.assertIs(always_star(many, (), shape), True)
                self.assertIs(always_star(many, shape, ()), True)
                self.assertIs(always_star(many, shape, shape), False)

    def test_it_agrees_with_past_star_at_lengths_for_all_chains(self):
        found = [0, 0]
        for many, one, other in many_shapes(150, 470):
            told = always_star(many, one, other)
            ways = [lengths_for(many, one, other, legs) for legs in open_chains(many, one, other)]
            self.assertIs(told, all([past_star(*trees) for trees in ways]), (one, other))
            found[told] += one != () and other != () and shared(*ways[0]) == ()
        self.assertGreater(min(found), 20)

    def test_it_agrees_with_past_star_at_any_lengths(self):
        for many in range(3, 7):
            for one, other in tries.some_pairs(many, 200, many + 480):
                if always_star(many, shape_of(one), shape_of(other)):
                    self.assertIs(past_star(one, other), True)
                if not past_star(one, other):
                    self.assertIs(always_star(many, shape_of(one), shape_of(other)), False)


if __name__ == "__main__":
    unittest.main()

"""Point 9: the places of the legs, spots at shares, the shapes between, and ways over no roads at all."""

import unittest
from decimal import Decimal, localcontext
from fractions import Fraction

from treespace.roots import plus, sign, times
from treespace.spots import breaks, past_star, spot, stretches
from treespace.trees import shapes
from treespace.ways import chain, shared, square
from tests import tries
from tests.measures import MINUS, fraction_sum, least_square, near, pair, whole
from tests.values import kinds

LEFT = (4, (((1, 2), (3, 1)), ((1, 2, 3), (4, 1))))
RIGHT = (4, (((2, 3), (1, 1)), ((2, 3, 4), (1, 1))))
WHOLE = (4, (((1, 2), (4, 1)), ((1, 2, 3), (3, 1))))
# One road stays, one is gone for good, one leg is at 3/4 of the way.
STAYS = (5, (((1, 2), (3, 1)), ((1, 2, 3), (4, 1)), ((4, 5), (1, 2))))
COMES = (5, (((1, 2, 3), (7, 2)), ((2, 3), (1, 1))))
HALF = ((1, (1, 2)),)


def as_sums(tree):
    """The roads of a tree with sums as lengths."""
    return tuple((lot, ((1, length),)) for lot, length in tree[1])


def less(one, other):
    return plus(one, times(MINUS, other))


def some_shares(seed):
    """Shares at the ends, in the middle, and some others."""
    turn = tries.numbers(seed)
    told = [Fraction(0), Fraction(1), Fraction(1, 2), Fraction(1, 100), Fraction(99, 100)]
    told.extend(Fraction(next(turn) % (low + 1), low) for low in (3, 4, 5, 7, 97, 100))
    return [pair(share) for share in told]


def all_pairs(count, seed):
    """Pairs of trees with three to six tips."""
    return [told for many in range(3, 7) for told in tries.some_pairs(many, count, many + seed)]


class BreaksTest(unittest.TestCase):
    def test_some_by_hand(self):
        self.assertEqual(breaks(LEFT, RIGHT), (((1, (3, 4)),), ((1, (4, 5)),)))
        self.assertEqual(breaks(RIGHT, LEFT), (((1, (1, 5)),), ((1, (1, 4)),)))
        self.assertEqual(breaks(STAYS, COMES), (((1, (3, 4)),),))
        self.assertEqual(breaks((3, (((1, 2), (7, 2)),)), (3, (((1, 3), (7, 2)),))), (HALF,))

    def test_alike_sizes_of_many_roads(self):
        one = (4, (((1, 2), (1, 1)), ((3, 4), (2, 1))))
        other = (4, (((1, 3), (2, 1)), ((2, 4), (1, 1))))
        self.assertEqual(breaks(one, other), (HALF,))

    def test_roots(self):
        one = (4, (((1, 2), (1, 1)), ((3, 4), (1, 1))))
        # The root of 2 by 1 and the root of 2, which is 2 less the root of 2.
        self.assertEqual(breaks(one, (4, (((1, 3), (1, 1)),))), (((1, (2, 1)), (2, (-1, 1))),))
        self.assertEqual(breaks((4, (((1, 3), (1, 1)),)), one), (((1, (-1, 1)), (2, (1, 1))),))
        self.assertEqual(breaks(WHOLE, RIGHT), (((1, (25, 23)), (2, (-5, 23))),))

    def test_no_legs(self):
        for many in range(3, 7):
            self.assertEqual(breaks((many, ()), (many, ())), ())
        for one, other in ((LEFT, LEFT), (LEFT, (4, ())), ((4, ()), LEFT), (LEFT, (4, (((1, 2), (1, 1)),)))):
            self.assertEqual(breaks(one, other), ())

    def test_they_rise_above_0_and_below_1(self):
        several = 0
        for one, other in all_pairs(150, 200):
            told = breaks(one, other)
            self.assertNotIn("list", str(kinds(told)))
            self.assertEqual(len(told), len(chain(one, other)))
            for low, high in zip(((),) + told, told + (whole(1),)):
                self.assertEqual(sign(less(high, low)), 1, (one, other))
            several += len(told) > 1
        self.assertGreater(several, 50)

    def test_they_are_the_quotients_of_sizes(self):
        roots = 0
        for one, other in all_pairs(100, 210):
            first, second = dict(one[1]), dict(other[1])
            told = breaks(one, other)
            for at, (gone, come) in zip(told, chain(one, other)):
                lengths = [[(lot, first[lot]) for lot in gone], [(lot, second[lot]) for lot in come]]
                with localcontext() as context:
                    context.prec = 80
                    own, its = [Decimal(tries.size_square(side).numerator) / tries.size_square(side).denominator
                                for side in lengths]
                    known = own.sqrt() / (own.sqrt() + its.sqrt())
                    self.assertLess(abs(Fraction(known) - near(at)), Fraction(1, 10 ** 60))
                roots += len(at) > 1
                self.assertEqual(kinds(plus(at, ())), kinds(at))
        self.assertGreater(roots, 50)

    def test_the_way_back(self):
        for one, other in all_pairs(60, 220):
            turned = tuple(less(whole(1), at) for at in reversed(breaks(one, other)))
            self.assertEqual(breaks(other, one), turned)


class SpotTest(unittest.TestCase):
    def test_some_by_hand(self):
        self.assertEqual(spot(LEFT, RIGHT, (1, 4)), (((1, 2), whole(2)), ((1, 2, 3), ((1, (11, 4)),))))
        self.assertEqual(spot(LEFT, RIGHT, (77, 100)), (((1, 2, 3), ((1, (3, 20)),)), ((2, 3), ((1, (2, 25)),))))
        self.assertEqual(spot(LEFT, RIGHT, (9, 10)), (((2, 3), ((1, (3, 5)),)), ((2, 3, 4), HALF)))

    def test_at_the_place_of_a_leg(self):
        # Neither the roads that have just gone nor those that are about to come are there.
        self.assertEqual(spot(LEFT, RIGHT, (3, 4)), (((1, 2, 3), ((1, (1, 4)),)),))
        self.assertEqual(spot(LEFT, RIGHT, (4, 5)), (((2, 3), ((1, (1, 5)),)),))
        self.assertEqual(spot((3, (((1, 2), (2, 1)),)), (3, (((1, 3), (1, 1)),)), (2, 3)), ())
        one, other = (4, (((1, 2), (1, 1)), ((3, 4), (2, 1)))), (4, (((1, 3), (2, 1)), ((2, 4), (1, 1))))
        self.assertEqual(spot(one, other, (1, 2)), ())

    def test_just_beside_the_place_of_a_leg(self):
        self.assertEqual(spot(LEFT, RIGHT, (74, 99))[0], ((1, 2), ((1, (1, 99)),)))
        self.assertEqual(spot(LEFT, RIGHT, (19, 25))[1], ((2, 3), ((1, (1, 25)),)))
        self.assertEqual(len(spot(LEFT, RIGHT, (79, 100))), 2)
        self.assertEqual(len(spot(LEFT, RIGHT, (81, 100))), 2)

    def test_shared_roads(self):
        quarter = ((1, 2, 3), ((1, (31, 8)),))
        self.assertEqual(spot(STAYS, COMES, (1, 4)), (((1, 2), whole(2)), quarter, ((4, 5), ((1, (3, 8)),))))
        self.assertEqual(spot(COMES, STAYS, (3, 4)), (((1, 2), whole(2)), quarter, ((4, 5), ((1, (3, 8)),))))
        self.assertEqual(spot(STAYS, COMES, (3, 4)), (((1, 2, 3), ((1, (29, 8)),)), ((4, 5), ((1, (1, 8)),))))

    def test_shared_roads_that_only_one_tree_has(self):
        one, other = (4, (((1, 2), (3, 1)),)), (4, (((3, 4), (5, 2)),))
        self.assertEqual(spot(one, other, (0, 1)), as_sums(one))
        self.assertEqual(spot(one, other, (1, 5)), (((1, 2), ((1, (12, 5)),)), ((3, 4), HALF)))
        self.assertEqual(spot(one, other, (1, 1)), as_sums(other))
        self.assertEqual(spot(LEFT, (4, ()), (99, 100)), (((1, 2), ((1, (3, 100)),)), ((1, 2, 3), ((1, (1, 25)),))))
        self.assertEqual(spot((4, ()), LEFT, (1, 2)), (((1, 2), ((1, (3, 2)),)), ((1, 2, 3), whole(2))))

    def test_roots(self):
        one, other = (4, (((1, 2), (1, 1)), ((3, 4), (1, 1)))), (4, (((1, 3), (1, 1)),))
        length = ((1, (2, 3)), (2, (-1, 6)))
        self.assertEqual(spot(one, other, (1, 3)), (((1, 2), length), ((3, 4), length)))
        self.assertEqual(spot(one, other, (2, 3)), (((1, 3), ((1, (2, 3)), (2, (-1, 3)))),))

    def test_no_roads_and_equal_trees(self):
        for many in range(3, 7):
            for share in some_shares(many):
                self.assertEqual(spot((many, ()), (many, ()), share), ())
                for tree, _ in tries.some_pairs(many, 5, many + 230):
                    self.assertEqual(spot(tree, tree, share), as_sums(tree))

    def test_at_the_ends(self):
        for one, other in all_pairs(100, 240):
            self.assertEqual(kinds(spot(one, other, (0, 1))), kinds(as_sums(one)))
            self.assertEqual(kinds(spot(one, other, (1, 1))), kinds(as_sums(other)))

    def test_from_the_other_end(self):
        for at, (one, other) in enumerate(all_pairs(60, 250)):
            for top, low in some_shares(at):
                told = spot(one, other, (top, low))
                self.assertEqual(kinds(told), kinds(spot(other, one, (low - top, low))), (one, other, top, low))

    def test_lots_rise_and_lengths_are_sums_above_0(self):
        for at, (one, other) in enumerate(all_pairs(60, 260)):
            for share in some_shares(at):
                told = spot(one, other, share)
                lots = [lot for lot, _ in told]
                self.assertTrue(all(low < high for low, high in zip(lots, lots[1:])))
                self.assertTrue(all(tries.fit(low, high) for low in lots for high in lots))
                for _, length in told:
                    self.assertEqual(sign(length), 1)
                    self.assertEqual(kinds(plus(length, ())), kinds(length))

    def test_so_much_of_the_length_is_gone(self):
        # Only the spot has both of these distances.
        for at, (one, other) in enumerate(all_pairs(25, 270)):
            length = Fraction(least_square(one, other))
            for share in some_shares(at)[2:]:
                there = (one[0], tuple((lot, pair(near(part))) for lot, part in spot(one, other, share)))
                part = tries.value(share)
                for known, told in ((part, least_square(one, there)), (1 - part, least_square(there, other))):
                    self.assertLess(abs(Fraction(told) - known * known * length), Fraction(1, 10 ** 40))

    def test_spots_that_are_trees(self):
        found = 0
        for at, (one, other) in enumerate(all_pairs(100, 280)):
            for share in ((1, 2), (1, 3), (2, 5)):
                told = spot(one, other, share)
                if any(len(part) > 1 or part[0][0] > 1 or part[0][1][1] > 2 for _, part in told):
                    continue
                there = (one[0], tuple((lot, part[0][1]) for lot, part in told))
                part = tries.value(share)
                self.assertEqual(square(one, there), times(fraction_sum(part ** 2), square(one, other)))
                self.assertEqual(square(there, other), times(fraction_sum((1 - part) ** 2), square(one, other)))
                found += chain(one, other) != ()
        self.assertGreater(found, 20)


class StretchesTest(unittest.TestCase):
    def test_some_by_hand(self):
        self.assertEqual(stretches(LEFT, RIGHT), (((1, 2), (1, 2, 3)), ((1, 2, 3), (2, 3)), ((2, 3), (2, 3, 4))))
        self.assertEqual(stretches(WHOLE, RIGHT), (((1, 2), (1, 2, 3)), ((2, 3), (2, 3, 4))))
        self.assertEqual(stretches(STAYS, COMES), (((1, 2), (1, 2, 3), (4, 5)), ((1, 2, 3), (2, 3), (4, 5))))

    def test_no_leg(self):
        for many in range(3, 7):
            self.assertEqual(stretches((many, ()), (many, ())), ((),))
        self.assertEqual(stretches(LEFT, LEFT), (((1, 2), (1, 2, 3)),))
        self.assertEqual(stretches(LEFT, (4, ())), (((1, 2), (1, 2, 3)),))
        self.assertEqual(stretches((4, ()), LEFT), (((1, 2), (1, 2, 3)),))
        one, other = (4, (((1, 2), (3, 1)),)), (4, (((3, 4), (5, 2)),))
        self.assertEqual(stretches(one, other), (((1, 2), (3, 4)),))

    def test_there_is_one_more_than_legs_and_each_is_a_shape(self):
        for many in range(3, 7):
            known = [shape for roads in range(many - 1) for shape in shapes(many, roads)]
            for one, other in tries.some_pairs(many, 100, many + 290):
                told = stretches(one, other)
                self.assertNotIn("list", str(kinds(told)))
                self.assertEqual(len(told), len(chain(one, other)) + 1)
                self.assertTrue(all(shape in known for shape in told), (one, other))
                self.assertEqual(stretches(other, one), told[::-1])

    def test_they_are_the_shapes_of_the_spots_between(self):
        inside = at_break = 0
        for one, other in all_pairs(25, 300):
            told, places = stretches(one, other), breaks(one, other)
            for top in range(1, 100):
                share = Fraction(top, 100)
                signs = [sign(less(fraction_sum(share), at)) for at in places]
                lots = tuple(lot for lot, _ in spot(one, other, pair(share)))
                ahead = told[signs.count(1)]
                if 0 in signs:
                    ahead = tuple(lot for lot in ahead if lot in told[signs.count(1) + 1])
                    at_break += 1
                self.assertEqual(lots, ahead, (one, other, share))
                inside += 0 < signs.count(1) < len(signs)
        self.assertGreater(inside, 100)
        self.assertGreater(at_break, 10)


class PastStarTest(unittest.TestCase):
    def test_at_the_ends(self):
        for many in range(3, 7):
            self.assertIs(past_star((many, ()), (many, ())), True)
            for one, other in tries.some_pairs(many, 30, many + 310):
                self.assertIs(past_star(one, (many, ())), True)
                self.assertIs(past_star((many, ()), other), True)

    def test_in_the_middle(self):
        self.assertIs(past_star((3, (((1, 2), (1, 1)),)), (3, (((1, 3), (1, 1)),))), True)
        self.assertIs(past_star(WHOLE, RIGHT), True)
        self.assertIs(past_star(LEFT, RIGHT), False)

    def test_a_shared_road_stays(self):
        one, other = (4, (((1, 2), (1, 1)), ((1, 2, 3), (1, 2)))), (4, (((1, 2, 3), (1, 2)), ((1, 3), (1, 1))))
        self.assertIs(past_star(one, other), False)
        # Only one of the trees has the shared road, and it is at the place of the leg all the same.
        self.assertIs(past_star(one, (4, other[1][1:])), False)
        self.assertIs(past_star((4, one[1][:1]), other), False)
        self.assertIs(past_star((4, one[1][:1]), (4, other[1][1:])), True)

    def test_no_legs(self):
        self.assertIs(past_star(LEFT, LEFT), False)
        self.assertIs(past_star((4, (((1, 2), (3, 1)),)), (4, (((3, 4), (5, 2)),))), False)

    def test_some_pairs(self):
        middle = 0
        for one, other in all_pairs(150, 320):
            told = stretches(one, other)
            bare = [not set(before) & set(behind) for before, behind in zip(told, told[1:])]
            known = any(bare) or one[1] == () or other[1] == ()
            self.assertIs(past_star(one, other), known, (one, other))
            self.assertIs(past_star(other, one), known)
            if any(bare):
                self.assertEqual((len(bare), shared(one, other)), (1, ()))
                middle += 1
        self.assertGreater(middle, 50)


if __name__ == "__main__":
    unittest.main()

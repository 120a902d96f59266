"""Point 7: what two trees share, and the chain of the way between them."""

import unittest

from treespace.trees import joined, renamed
from treespace.ways import chain, shared, unshared
from tests import tries
from tests.values import kinds

STAR = (4, ())
LEFT = (4, (((1, 2), (3, 1)), ((1, 2, 3), (4, 1))))
RIGHT = (4, (((2, 3), (1, 1)), ((2, 3, 4), (1, 1))))


def three(lot, top, low=1):
    return (3, ((lot, (top, low)),))


def beside(first, second, above=(1, 1)):
    """Two trees of six tips: two pairs (length, length) of roads above 1, 2 and 4, 5, and above 1, 3 and 4, 6."""
    one = joined((3, (((1, 2), first[0]),)), (3, (((1, 2), second[0]),)), above)
    other = joined((3, (((1, 3), first[1]),)), (3, (((1, 3), second[1]),)), above)
    return one, other


class SharedTest(unittest.TestCase):
    def test_roads_that_both_have(self):
        one = (5, (((1, 2), (3, 1)), ((1, 2, 3), (4, 1)), ((4, 5), (1, 2))))
        other = (5, (((1, 2, 3), (7, 2)), ((2, 3), (1, 1))))
        self.assertEqual(shared(one, other), (((1, 2, 3), (4, 1), (7, 2)), ((4, 5), (1, 2), (0, 1))))
        self.assertEqual(shared(other, one), (((1, 2, 3), (7, 2), (4, 1)), ((4, 5), (0, 1), (1, 2))))
        self.assertEqual(chain(one, other), ((((1, 2),), ((2, 3),)),))
        self.assertEqual(unshared(one, other), 2)

    def test_roads_that_only_one_has(self):
        one, other = (4, (((1, 2), (3, 1)),)), (4, (((3, 4), (5, 2)),))
        self.assertEqual(shared(one, other), (((1, 2), (3, 1), (0, 1)), ((3, 4), (0, 1), (5, 2))))
        self.assertEqual(chain(one, other), ())
        self.assertEqual(unshared(one, other), 0)

    def test_a_road_that_fits_some_of_the_other_is_not_shared(self):
        self.assertEqual(shared(LEFT, RIGHT), ())
        self.assertEqual(unshared(LEFT, RIGHT), 4)

    def test_no_roads(self):
        for many in range(3, 7):
            self.assertEqual(shared((many, ()), (many, ())), ())
            self.assertEqual(chain((many, ()), (many, ())), ())
            self.assertEqual(unshared((many, ()), (many, ())), 0)
        self.assertEqual(shared(STAR, LEFT), (((1, 2), (0, 1), (3, 1)), ((1, 2, 3), (0, 1), (4, 1))))
        self.assertEqual(chain(STAR, LEFT), ())
        self.assertEqual(unshared(LEFT, STAR), 0)

    def test_equal_trees(self):
        for many in range(3, 7):
            for tree, _ in tries.some_pairs(many, 60, many):
                same = tuple((lot, length, length) for lot, length in tree[1])
                self.assertEqual(shared(tree, tree), same)
                self.assertEqual(chain(tree, tree), ())
                self.assertEqual(unshared(tree, tree), 0)

    def test_some_pairs(self):
        both = alone = 0
        for many in range(3, 7):
            for one, other in tries.some_pairs(many, 300, many + 10):
                gone, come = tries.unshared_roads(one, other)
                lots = {lot for lot, _ in one[1] + other[1]} - {lot for lot, _ in gone + come}
                first, second = dict(one[1]), dict(other[1])
                told = tuple((lot, first.get(lot, (0, 1)), second.get(lot, (0, 1))) for lot in sorted(lots))
                self.assertEqual(kinds(shared(one, other)), kinds(told), (one, other))
                self.assertEqual(unshared(one, other), len(gone) + len(come), (one, other))
                both += any(lot in first and lot in second for lot in lots)
                alone += any(lot not in first or lot not in second for lot in lots)
        self.assertGreater(both, 50)
        self.assertGreater(alone, 50)


class ChainTest(unittest.TestCase):
    def test_three_tips(self):
        self.assertEqual(chain(three((1, 2), 1), three((2, 3), 500)), ((((1, 2),), ((2, 3),)),))
        self.assertEqual(chain(three((1, 2), 1), three((1, 2), 500)), ())

    def test_lengths_part_a_leg_or_not(self):
        parted = ((((1, 2),), ((2, 3),)), (((1, 2, 3),), ((2, 3, 4),)))
        whole = ((((1, 2), (1, 2, 3)), ((2, 3), (2, 3, 4))),)
        self.assertEqual(chain(LEFT, RIGHT), parted)
        self.assertEqual(chain((4, (((1, 2), (4, 1)), ((1, 2, 3), (3, 1)))), RIGHT), whole)
        self.assertEqual(chain((4, (((1, 2), (7, 2)), ((1, 2, 3), (7, 2)))), RIGHT), whole)

    def test_alike_quotients_make_one_leg(self):
        whole = ((((1, 2), (4, 5)), ((1, 3), (4, 6))),)
        for lengths in ((((1, 1), (1, 1)), ((1, 1), (1, 1))), (((1, 2), (3, 2)), ((2, 1), (6, 1))),
                        (((999, 2), (333, 1)), ((3, 2), (1, 1)))):
            one, other = beside(*lengths)
            self.assertEqual(chain(one, other), whole)
            self.assertEqual(tries.all_chains(one, other), [whole])

    def test_other_quotients_make_two_legs_in_their_order(self):
        first, second = (((1, 2),), ((1, 3),)), (((4, 5),), ((4, 6),))
        self.assertEqual(chain(*beside(((1, 1), (1, 1)), ((3, 2), (1, 1)))), (first, second))
        self.assertEqual(chain(*beside(((3, 2), (1, 1)), ((1, 1), (1, 1)))), (second, first))
        self.assertEqual(chain(*beside(((500, 1), (999, 2)), ((999, 2), (499, 1)))), (first, second))
        self.assertEqual(chain(*beside(((999, 2), (499, 1)), ((500, 1), (999, 2)))), (second, first))

    def test_alike_quotients_within_one_leg(self):
        # 1, 2 doesn't fit 2, 3, 4, so this is no pair of trees side by side; the pairs of its parting are alike, too.
        one = (4, (((1, 2), (2, 1)), ((1, 2, 3), (2, 1))))
        self.assertEqual(chain(one, RIGHT), ((((1, 2), (1, 2, 3)), ((2, 3), (2, 3, 4))),))

    def test_legs_of_unlike_sides(self):
        one = (6, (((1, 2), (1, 1)), ((1, 2, 3), (2, 1)), ((1, 2, 3, 4), (1, 2)), ((1, 2, 3, 4, 5), (3, 1))))
        other = (6, (((1, 6), (7, 2)),))
        four = tuple(lot for lot, _ in one[1])
        self.assertEqual(chain(one, other), ((four, ((1, 6),)),))
        self.assertEqual(chain(other, one), ((((1, 6),), four),))

    def test_four_legs(self):
        tops = (1, 3, 9, 27)
        first = ((1, 2), (1, 2, 3), (1, 2, 3, 4), (1, 2, 3, 4, 5))
        second = ((2, 3), (2, 3, 4), (2, 3, 4, 5), (2, 3, 4, 5, 6))
        one = (6, tuple((lot, (top, 1)) for lot, top in zip(first, tops)))
        other = (6, tuple((lot, (1, 1)) for lot in second))
        self.assertEqual(chain(one, other), tuple(((mine,), (its,)) for mine, its in zip(first, second)))
        turned = tuple(((its,), (mine,)) for mine, its in reversed(list(zip(first, second))))
        self.assertEqual(chain(other, one), turned)


class TriesTest(unittest.TestCase):
    """Trees of three to six tips, compared with trying all chains."""

    def check(self, one, other):
        told = chain(one, other)
        self.assertEqual(tries.all_chains(one, other), [told], (one, other))
        self.assertNotIn("list", str(kinds(told)))
        turned = tuple((second, first) for first, second in reversed(told))
        self.assertEqual(chain(other, one), turned, (one, other))
        return len(told)

    def test_some_pairs(self):
        for many in range(3, 7):
            counts = {}
            for one, other in tries.some_pairs(many, 250, many):
                counts[self.check(one, other)] = True
            self.assertEqual(sorted(counts), list(range(many - 1)))

    def test_legs_with_all_numbers_of_roads(self):
        for many in range(4, 7):
            for one, other in tries.some_legs(many, 150, many + 20):
                self.check((many, one), (many, other))

    def test_alike_and_nearly_alike_quotients(self):
        lengths = ((1, 1), (2, 1), (1, 2), (4, 1))
        for code in range(256):
            told = [lengths[(code >> at) % 4] for at in (0, 2, 4, 6)]
            self.check(*beside(told[:2], told[2:], above=told[0]))

    def test_each_property_by_itself(self):
        for many in range(4, 7):
            for one, other in tries.some_pairs(many, 100, many + 30):
                gone, come = tries.unshared_roads(one, other)
                first, second = dict(gone), dict(come)
                told = chain(one, other)
                legs = [(tuple((lot, first[lot]) for lot in left), tuple((lot, second[lot]) for lot in right))
                        for left, right in told]
                self.assertEqual(sorted(lot for left, _ in told for lot in left), sorted(first))
                self.assertEqual(sorted(lot for _, right in told for lot in right), sorted(second))
                for at, (left, right) in enumerate(told):
                    self.assertEqual((list(left), list(right)), (sorted(left), sorted(right)))
                    for _, ahead in told[:at]:
                        self.assertTrue(all(tries.fit(lot, by) for lot in left for by in ahead))
                quotients = [tries.quotient(leg) for leg in legs]
                self.assertTrue(all(low < high for low, high in zip(quotients, quotients[1:])))
                self.assertFalse(any(tries.has_cheaper(*leg) for leg in legs))

    def test_other_names_of_the_tips(self):
        for many in range(3, 7):
            order = tuple(range(2, many + 1)) + (1,)
            for one, other in tries.some_pairs(many, 60, many + 40):
                new = tuple(
                    tuple(tuple(sorted(tuple(sorted(order[tip - 1] for tip in lot)) for lot in side)) for side in leg)
                    for leg in chain(one, other))
                self.assertEqual(chain(renamed(one, order), renamed(other, order)), new)


if __name__ == "__main__":
    unittest.main()

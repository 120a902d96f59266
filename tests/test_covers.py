"""Point 6: cheaper partings and tables of legs."""

import unittest
from math import isqrt

from treespace.covers import cheaper, shares
from tests import tries
from tests.values import kinds


def road(lot, top, low=1):
    return (lot, (top, low))


def two_parts(lengths):
    """A leg of six tips that is two legs of three tips side by side: its sides' lengths, those of 1 to 3 first."""
    first, second, third, fourth = lengths
    return (((1, 2), first), ((4, 5), second)), (((1, 3), third), ((4, 6), fourth))


class PartingTest(unittest.TestCase):
    def test_the_less_part_goes_first(self):
        one, other = two_parts([(1, 1), (2, 1), (1, 1), (1, 1)])
        self.assertEqual(cheaper(6, one, other), ((one[:1], other[:1]), (one[1:], other[1:])))
        one, other = two_parts([(2, 1), (1, 1), (1, 1), (1, 1)])
        self.assertEqual(cheaper(6, one, other), ((one[1:], other[1:]), (one[:1], other[:1])))

    def test_the_second_side_counts_as_well(self):
        one, other = two_parts([(1, 1), (1, 1), (1, 2), (1, 1)])
        self.assertEqual(cheaper(6, one, other), ((one[1:], other[1:]), (one[:1], other[:1])))
        self.assertIsNone(shares(6, one, other))

    def test_alike_quotients_are_not_cheaper(self):
        one, other = two_parts([(1, 1), (7, 1), (3, 2), (21, 2)])
        self.assertIsNone(cheaper(6, one, other))
        table = (((1, 2), (1, 3), (1, 50)), ((4, 5), (4, 6), (49, 50)))
        self.assertEqual(shares(6, one, other), table)

    def test_quotients_that_are_nearly_alike(self):
        one, other = two_parts([(500, 1), (999, 2), (999, 2), (499, 1)])
        self.assertEqual(cheaper(6, one, other), ((one[:1], other[:1]), (one[1:], other[1:])))
        one, other = two_parts([(999, 2), (499, 1), (500, 1), (999, 2)])
        self.assertEqual(cheaper(6, one, other), ((one[1:], other[1:]), (one[:1], other[:1])))

    def test_lots_that_fit_alone_do_not_make_a_parting(self):
        # 1, 2, 3 fits 2, 3, but the parting with 1, 2 and 2, 3 first is not cheaper.
        one = (road((1, 2), 4), road((1, 2, 3), 3))
        other = (road((2, 3), 1), road((2, 3, 4), 1))
        self.assertIsNone(cheaper(4, one, other))
        self.assertIsNotNone(cheaper(4, (road((1, 2), 3), road((1, 2, 3), 4)), other))

    def test_no_parting_if_all_lots_do_not_fit(self):
        one = (road((1, 2), 500), road((3, 4), 1, 2))
        other = (road((1, 3), 1, 2), road((2, 4), 500))
        self.assertIsNone(cheaper(4, one, other))

    def test_roads_stay_in_order(self):
        one = (road((1, 2), 1), road((1, 2, 3), 9), road((1, 2, 3, 4), 1), road((1, 2, 3, 4, 5), 9))
        other = (road((2, 3), 9), road((2, 3, 4), 1), road((2, 3, 4, 5), 9), road((2, 3, 4, 5, 6), 1))
        parting = cheaper(6, one, other)
        self.assertTrue(tries.is_parting(parting, one, other))
        self.assertTrue(tries.is_cheaper(parting))
        for pair in parting:
            for side in pair:
                self.assertEqual(list(side), sorted(side))


class TableTest(unittest.TestCase):
    def test_one_road_each(self):
        for many, one, other in ((3, (1, 2), (1, 3)), (6, (1, 2, 3, 4, 5), (5, 6))):
            for lengths in (((1, 1), (1, 1)), ((1, 2), (500, 1)), ((999, 2), (3, 1))):
                told = (((one, lengths[0]),), ((other, lengths[1]),))
                self.assertIsNone(cheaper(many, *told))
                self.assertEqual(shares(many, *told), ((one, other, (1, 1)),))

    def test_one_road_that_fits_none_of_four(self):
        four = (road((1, 2), 1), road((1, 2, 3), 2), road((1, 2, 3, 4), 1, 2), road((1, 2, 3, 4, 5), 3))
        single = (road((1, 6), 7, 2),)
        parts = ((4, 57), (16, 57), (1, 57), (12, 19))
        lots = tuple(lot for lot, _ in four)
        table = tuple((lot, (1, 6), part) for lot, part in zip(lots, parts))
        self.assertEqual(shares(6, four, single), table)
        table = tuple(((1, 6), lot, part) for lot, part in zip(lots, parts))
        self.assertEqual(shares(6, single, four), table)
        self.assertIsNone(cheaper(6, four, single))
        self.assertIsNone(cheaper(6, single, four))

    def test_sizes_that_are_no_fractions(self):
        one = (road((1, 2), 1), road((3, 4), 1))
        other = (road((1, 3), 1), road((2, 4), 2))
        table = shares(4, one, other)
        self.assertTrue(tries.table_is_right(table, one, other), table)

    def test_only_lots_that_do_not_fit(self):
        one = (road((1, 2), 1), road((1, 2, 3), 1))
        other = (road((2, 3), 1), road((2, 3, 4), 1))
        table = (((1, 2), (2, 3), (1, 2)), ((1, 2, 3), (2, 3, 4), (1, 2)))
        self.assertEqual(shares(4, one, other), table)


class TriesTest(unittest.TestCase):
    """Legs of all numbers of roads, compared with trying all partings."""

    def check(self, many, one, other):
        told = repr((many, one, other))
        parting = cheaper(many, one, other)
        table = shares(many, one, other)
        self.assertEqual(parting is None, not tries.has_cheaper(one, other), told)
        self.assertEqual(table is None, parting is not None, told)
        self.assertNotIn("list", str(kinds((parting, table))), told)
        if parting is None:
            self.assertTrue(tries.table_is_right(table, one, other), told)
            return False
        self.assertTrue(tries.is_parting(parting, one, other), told)
        self.assertTrue(tries.is_cheaper(parting), told)
        return True

    def test_some_legs(self):
        for many in range(3, 7):
            counts, parted = {}, 0
            for one, other in tries.some_legs(many, 700, many):
                counts[len(one), len(other)] = True
                parted += self.check(many, one, other)
            sizes = range(1, many - 1)
            self.assertEqual(sorted(counts), [(first, second) for first in sizes for second in sizes])
            self.assertEqual(parted > 0, many > 3)
            self.assertLess(parted, 700)

    def test_sizes_of_both_kinds_are_among_them(self):
        found = set()
        for one, other in tries.some_legs(6, 700, 6):
            for side in (one, other):
                four = int(4 * tries.size_square(side))
                found.add((len(side), isqrt(four) ** 2 == four))
        self.assertEqual(len(found), 7)

    def test_four_roads_each_with_alike_lengths(self):
        one = ((1, 2), (1, 2, 3), (1, 2, 3, 4), (1, 2, 3, 4, 5))
        for other in (((5, 6), (4, 5, 6), (3, 4, 5, 6), (2, 3, 4, 5, 6)), ((1, 6), (2, 5), (1, 2, 5, 6), (3, 4)),
                      ((2, 3), (2, 3, 4), (2, 3, 4, 5), (2, 3, 4, 5, 6)), ((1, 3), (2, 4), (1, 2, 3, 4), (5, 6))):
            other = tuple(sorted(other))
            for code in range(256):
                first = tuple((lot, (1 + (code >> at) % 2, 1)) for at, lot in enumerate(one))
                second = tuple((lot, (1 + (code >> at) % 2, 1)) for at, lot in enumerate(other, start=4))
                sides = tries.unshared_roads((6, first), (6, second))
                self.check(6, *sides)


if __name__ == "__main__":
    unittest.main()

"""Point 11: what the squares of the ways add up to, pulls on roads, means, and the mean of trees with three tips."""

import unittest
from fractions import Fraction

from treespace.means import is_mean, pull, spider, square_sum
from treespace.sums import sum_plus, sum_sign, sum_times
from treespace.trees import renamed
from treespace.ways import chain, shared, square
from tests import tries
from tests.measures import MINUS, least_square, near, pair, whole
from tests.values import kinds

LEFT = (4, (((1, 2), (3, 1)), ((1, 2, 3), (4, 1))))
CROSSED = (4, (((1, 3), (3, 1)), ((2, 4), (4, 1))))
HALF = Fraction(1, 2)


def less(one, other):
    return sum_plus(one, sum_times(MINUS, other))


def three(lot, top, low=1):
    return (3, ((lot, (top, low)),))


def full_tree(turn, many, lengths):
    """A tree with many - 2 roads."""
    return (many, tries.with_lengths(turn, tries.some_shape(turn, many, many - 2), lengths))


def some_tasks(count, seed):
    """Pairs of a tree with many - 2 roads and one to six trees, some of them alike, in its corner or with few roads."""
    out = []
    for many in range(3, 7):
        turn = tries.numbers(many + seed)
        for at in range(count):
            lengths = tries.pick(turn, tries.LENGTHS)
            tree = full_tree(turn, many, lengths)
            some = []
            for _ in range(1 + at % 6):
                shape = tuple(lot for lot, _ in tree[1])
                near_by = (many, tries.with_lengths(turn, shape, lengths))
                few = (many, full_tree(turn, many, lengths)[1][:next(turn) % (many - 1)])
                kinds_of = [full_tree(turn, many, lengths), full_tree(turn, many, lengths), near_by, few, tree]
                some.append(tries.pick(turn, kinds_of + some))
            out.append((tree, tuple(some)))
    return out


def with_length(tree, at, length):
    """A tree in which one road has another length, any fraction of Python."""
    many, roads = tree
    return (many, roads[:at] + ((roads[at][0], pair(length)),) + roads[at + 1:])


def spider_by_hand(some):
    """The mean of trees with three tips, by the least of what the squares add up to on each of the three roads."""
    best = None
    for lot in ((1, 2), (1, 3), (2, 3)):
        lengths = [(own, tries.value(length)) for _, roads in some for own, length in roads]
        told = [length if own == lot else -length for own, length in lengths]
        at = max(sum(told, Fraction(0)) / len(some), Fraction(0))
        # A tree without roads is at 0 of each road.
        total = len(some) * at * at + sum(part * part - 2 * at * part for part in told)
        if best is None or total < best[0]:
            best = (total, ((lot, pair(at)),) if at > 0 else ())
    return best[1]


class SquareSumTest(unittest.TestCase):
    def test_some_by_hand(self):
        some = (three((1, 2), 5), three((1, 2), 3), three((1, 3), 2))
        self.assertEqual(square_sum(three((1, 2), 2), some), whole(26))
        self.assertEqual(square_sum((3, ()), some), whole(38))
        self.assertEqual(square_sum(three((1, 2), 5, 2), some[:1] * 6), ((1, (75, 2)),))
        self.assertEqual(square_sum((4, ()), (LEFT, CROSSED)), whole(50))
        self.assertEqual(square_sum(LEFT, (CROSSED,) * 2), whole(200))

    def test_itself(self):
        for many in range(3, 7):
            for tree, _ in tries.some_pairs(many, 10, many + 500):
                for count in range(1, 7):
                    self.assertEqual(square_sum(tree, (tree,) * count), ())

    def test_it_is_the_sum_of_the_squares_of_the_ways(self):
        several = 0
        for tree, some in some_tasks(40, 510):
            told = square_sum(tree, some)
            for own in some:
                told = less(told, square(own, tree))
            self.assertEqual(told, ())
            several += len(square_sum(tree, some)) > 2
        self.assertGreater(several, 10)

    def test_it_is_so_for_trees_with_any_number_of_roads(self):
        for many in range(3, 7):
            pairs = tries.some_pairs(many, 20, many + 520)
            for (tree, one), (other, third) in zip(pairs, pairs[1:]):
                parts = [square(tree, own) for own in (one, other, third)]
                self.assertEqual(square_sum(tree, (one, other, third)), sum_plus(sum_plus(*parts[:2]), parts[2]))

    def test_by_trying(self):
        for tree, some in some_tasks(12, 530):
            told = near(square_sum(tree, some))
            self.assertLess(abs(told - sum(Fraction(least_square(own, tree)) for own in some)), Fraction(1, 10 ** 40))

    def test_the_order_of_the_trees_does_not_count(self):
        for tree, some in some_tasks(12, 540):
            self.assertEqual(square_sum(tree, some), square_sum(tree, some[::-1]))
            self.assertEqual(pull(tree, some), pull(tree, some[::-1]))


class PullTest(unittest.TestCase):
    def test_on_shared_roads(self):
        self.assertEqual(pull(three((1, 2), 1), (three((1, 2), 5),)), (((1, 2), whole(-4)),))
        self.assertEqual(pull(three((1, 2), 5), (three((1, 2), 1, 2),)), (((1, 2), ((1, (9, 2)),)),))
        other = (4, (((1, 2), (7, 2)), ((1, 2, 3), (3, 1))))
        self.assertEqual(pull(LEFT, (other,)), (((1, 2), ((1, (-1, 2)),)), ((1, 2, 3), whole(1))))

    def test_on_roads_that_only_one_has(self):
        self.assertEqual(pull(three((1, 2), 7, 2), ((3, ()),)), (((1, 2), ((1, (7, 2)),)),))
        self.assertEqual(pull(LEFT, ((4, LEFT[1][:1]),)), (((1, 2), ()), ((1, 2, 3), whole(4))))
        self.assertEqual(pull(LEFT, ((4, ()),)), (((1, 2), whole(3)), ((1, 2, 3), whole(4))))

    def test_from_another_corner(self):
        self.assertEqual(pull(three((1, 2), 1), (three((1, 3), 2),)), (((1, 2), whole(3)),))
        self.assertEqual(pull(LEFT, (CROSSED,)), (((1, 2), whole(6)), ((1, 2, 3), whole(8))))
        one = (4, (((1, 2), (1, 1)), ((3, 4), (1, 1))))
        length = ((1, (1, 1)), (2, (1, 2)))
        self.assertEqual(pull(one, ((4, (((1, 3), (1, 1)),)),)), (((1, 2), length), ((3, 4), length)))

    def test_from_several_trees(self):
        told = (((1, 2), whole(11)), ((1, 2, 3), whole(14)))
        self.assertEqual(pull(LEFT, (CROSSED, (4, LEFT[1][:1]), (4, ((LEFT[1][0][0], (1, 1)),)), (4, ()))),
                         (((1, 2), whole(11)), ((1, 2, 3), whole(20))))
        self.assertEqual(pull(LEFT, (CROSSED, LEFT, (4, ()), (4, (((1, 2), (1, 1)), ((1, 2, 3), (2, 1)))))), told)

    def test_there_is_none_from_the_tree_itself(self):
        for tree, _ in some_tasks(12, 550):
            told = tuple((lot, ()) for lot, _ in tree[1])
            for count in range(1, 7):
                self.assertEqual(pull(tree, (tree,) * count), told)

    def test_it_is_a_tuple_of_sums_with_lots_rising(self):
        for tree, some in some_tasks(30, 560):
            told = pull(tree, some)
            self.assertNotIn("list", str(kinds(told)))
            self.assertEqual([lot for lot, _ in told], [lot for lot, _ in tree[1]])
            for _, part in told:
                self.assertEqual(kinds(sum_plus(part, ())), kinds(part))

    def test_it_is_how_much_half_of_the_sum_grows(self):
        step, several = Fraction(1, 10 ** 25), 0
        for tree, some in some_tasks(18, 570):
            start = sum(Fraction(least_square(own, tree)) for own in some)
            for at, (lot, told) in enumerate(pull(tree, some)):
                more = with_length(tree, at, tries.value(tree[1][at][1]) + step)
                end = sum(Fraction(least_square(own, more)) for own in some)
                self.assertLess(abs((end - start) / step / 2 - near(told)), Fraction(1, 10 ** 15), (tree, some, lot))
            several += any(len(chain(tree, own)) > 1 for own in some)
        self.assertGreater(several, 10)

    def test_trees_nearby_are_further_by_no_less(self):
        # The sum is curved upward: from half a step ahead to the tree it grows by less than the pull, from the tree on
        # by more.
        for tree, some in some_tasks(24, 580):
            start = square_sum(tree, some)
            for at, (_, told) in enumerate(pull(tree, some)):
                length = tries.value(tree[1][at][1])
                if length < 500:
                    ahead = less(square_sum(with_length(tree, at, length + HALF), some), start)
                    self.assertEqual(sum_sign(less(ahead, told)), 1)
                if length > HALF:
                    behind = less(start, square_sum(with_length(tree, at, length - HALF), some))
                    self.assertEqual(sum_sign(less(told, behind)), 1)

    def test_other_names_of_the_tips(self):
        for tree, some in some_tasks(12, 590):
            order = tuple(range(tree[0], 0, -1))
            new = {tuple(sorted(order[tip - 1] for tip in lot)): part for lot, part in pull(tree, some)}
            told = pull(renamed(tree, order), tuple(renamed(own, order) for own in some))
            self.assertEqual(dict(told), new)


class IsMeanTest(unittest.TestCase):
    def test_the_one_given_tree(self):
        for tree, _ in some_tasks(12, 600):
            for count in range(1, 7):
                self.assertIs(is_mean(tree, (tree,) * count), True)

    def test_trees_in_one_corner(self):
        some = tuple((4, (((1, 2), (own, 1)), ((1, 2, 3), (its, 1)))) for own, its in ((1, 6), (5, 1), (3, 5)))
        self.assertIs(is_mean(LEFT, some), True)
        for at in range(2):
            for step in (-HALF, HALF):
                self.assertIs(is_mean(with_length(LEFT, at, tries.value(LEFT[1][at][1]) + step), some), False)
        self.assertIs(is_mean((4, (((1, 2), (3, 1)), ((1, 2, 4), (4, 1)))), some), False)

    def test_trees_in_several_corners(self):
        far = (4, (((1, 2), (9, 1)), ((1, 2, 3), (12, 1))))
        self.assertIs(is_mean(LEFT, (far, CROSSED)), True)
        self.assertIs(is_mean(LEFT, (far, CROSSED, LEFT, CROSSED, far)), True)
        self.assertIs(is_mean(LEFT, (far, CROSSED, CROSSED)), False)
        self.assertIs(is_mean(LEFT, (far,)), False)
        self.assertIs(is_mean(LEFT, (CROSSED,)), False)

    def test_a_pull_on_one_road_alone(self):
        self.assertIs(is_mean(LEFT, ((4, LEFT[1][:1]),)), False)
        self.assertIs(is_mean(LEFT, ((4, (((1, 2), (3, 1)), ((1, 2, 3), (9, 2)))),)), False)

    def test_pulls_with_roots(self):
        # Roots come from other corners alone, all pull in one direction, and are never made up for by fractions.
        tree = (4, (((1, 2), (1, 1)), ((3, 4), (1, 1))))
        out = (4, (((1, 3), (1, 1)),))
        self.assertEqual(pull(tree, (out, out))[0][1], ((1, (2, 1)), (2, (1, 1))))
        for top in range(2, 12):
            length = (top // 2, 1) if top % 2 == 0 else (top, 2)
            self.assertIs(is_mean(tree, (out, (4, (((1, 2), length), ((3, 4), length))))), False)

    def test_it_is_so_if_there_is_no_pull(self):
        found = 0
        for tree, some in some_tasks(60, 610):
            known = all(part == () for _, part in pull(tree, some))
            self.assertIs(is_mean(tree, some), known)
            found += known
        self.assertGreater(found, 5)

    def test_the_mean_has_the_least_sum(self):
        found = 0
        for tree, some in some_tasks(60, 620):
            if is_mean(tree, some):
                least = square_sum(tree, some)
                others = [own for own in some if own != tree] + [(tree[0], ()), (tree[0], tree[1][1:])]
                for other in others:
                    self.assertEqual(sum_sign(less(square_sum(other, some), least)), 1)
                found += 1
        self.assertGreater(found, 5)


class SpiderTest(unittest.TestCase):
    def test_some_by_hand(self):
        some = (three((1, 2), 5), three((1, 2), 3), three((1, 3), 2))
        self.assertEqual(spider(some), (((1, 2), (2, 1)),))
        self.assertEqual(spider((three((2, 3), 7, 2),)), (((2, 3), (7, 2)),))
        self.assertEqual(spider((three((2, 3), 7, 2), (3, ()), (3, ()))), (((2, 3), (7, 6)),))
        self.assertEqual(spider((three((1, 3), 1, 2),) * 6), (((1, 3), (1, 2)),))
        self.assertEqual(spider((three((1, 2), 1, 2),) + ((3, ()),) * 5), (((1, 2), (1, 12)),))
        self.assertEqual(spider((three((1, 3), 500), three((2, 3), 999, 2))), (((1, 3), (1, 4)),))

    def test_no_road_wins(self):
        self.assertEqual(spider(((3, ()),)), ())
        self.assertEqual(spider(((3, ()),) * 6), ())
        self.assertEqual(spider((three((1, 2), 2), three((1, 3), 2))), ())
        self.assertEqual(spider((three((1, 2), 3), three((1, 3), 2), three((2, 3), 2))), ())
        self.assertEqual(spider((three((1, 2), 4), three((1, 3), 2), three((2, 3), 2))), ())
        self.assertEqual(spider((three((1, 2), 9, 2), three((1, 3), 2), three((2, 3), 2))), (((1, 2), (1, 6)),))

    def test_by_the_least_sum(self):
        turn, none = tries.numbers(630), 0
        for at in range(600):
            lengths = tries.pick(turn, tries.LENGTHS)
            some = tuple((3, tries.with_lengths(turn, tries.some_shape(turn, 3, next(turn) % 4), lengths))
                         for _ in range(1 + at % 6))
            told = spider(some)
            self.assertEqual(kinds(told), kinds(spider_by_hand(some)), some)
            none += told == ()
        self.assertGreater(none, 50)

    def test_it_agrees_with_is_mean(self):
        found = 0
        for _, some in some_tasks(300, 640)[:300]:
            roads = spider(some)
            if roads and roads[0][1][1] <= 2:
                self.assertIs(is_mean((3, roads), some), True)
                found += 1
            for lot in ((1, 2), (1, 3), (2, 3)):
                for top in range(1, 9):
                    road = (lot, pair(Fraction(top, 2)))
                    self.assertIs(is_mean((3, (road,)), some), roads == (road,))
        self.assertGreater(found, 50)

    def test_the_trees_of_tasks_have_three_kinds_of_roads(self):
        told = some_tasks(40, 650)
        self.assertTrue(any(shared(tree, own) and chain(tree, own) for tree, some in told for own in some))
        self.assertTrue(any(len(some) != len(set(some)) for _, some in told))


if __name__ == "__main__":
    unittest.main()

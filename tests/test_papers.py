"""Point 8: papers of ways, and what is none."""

import unittest
from fractions import Fraction

from treespace.papers import shows_way, way_paper
from treespace.trees import joined
from treespace.ways import chain
from tests import tries
from tests.values import kinds, odd_values, own_copy

LEFT = (4, (((1, 2), (3, 1)), ((1, 2, 3), (4, 1))))
RIGHT = (4, (((2, 3), (1, 1)), ((2, 3, 4), (1, 1))))
WHOLE = (4, (((1, 2), (4, 1)), ((1, 2, 3), (3, 1))))
# No lot of either of these fits one of the other, so there are many tables of their one leg.
SQUARE = ((4, (((1, 2), (1, 1)), ((3, 4), (1, 1)))), (4, (((1, 3), (1, 1)), ((2, 4), (1, 1)))))


def beside(tops):
    """Two trees of six tips, with roads of these lengths above 1, 2 and 4, 5, and above 1, 3 and 4, 6."""
    parts = [(3, ((lot, (top, 1)),)) for lot, top in zip(((1, 2), (1, 2), (1, 3), (1, 3)), tops)]
    return joined(parts[0], parts[1], (1, 1)), joined(parts[2], parts[3], (1, 1))


def square_table(share):
    """The table of the leg between both trees of SQUARE in which the first two lots have a share."""
    rows = [((1, 2), (1, 3), share), ((1, 2), (2, 4), Fraction(1, 2) - share),
            ((3, 4), (1, 3), Fraction(1, 2) - share), ((3, 4), (2, 4), share)]
    return tuple((lot, to, (part.numerator, part.denominator)) for lot, to, part in rows if part != 0)


def places(thing, path=()):
    """The paths of all parts of nested tuples, the whole first."""
    out = [path]
    if isinstance(thing, tuple):
        for at, part in enumerate(thing):
            out.extend(places(part, path + (at,)))
    return out


def part_at(thing, path):
    for at in path:
        thing = thing[at]
    return thing


def put(thing, path, part):
    """Nested tuples with another part at a path."""
    if not path:
        return part
    at = path[0]
    return thing[:at] + (put(thing[at], path[1:], part),) + thing[at + 1:]


def bent(thing):
    """What a tuple or an integer may be bent to."""
    if not isinstance(thing, tuple):
        out = [thing + 1, thing - 1, -thing, 2 * thing, str(thing), None, (thing,), [thing], {thing: thing}]
        return out + ([True] if thing == 1 else [])
    out = [list(thing), {}, None, "", 0, True, (thing,), thing + (thing,), thing + ((),), thing + (None,)]
    for at in range(len(thing)):
        out.append(thing[:at] + thing[at + 1:])
        out.append(thing[:at] + thing[at:at + 1] + thing[at:])
        out.append(thing[:at] + tuple(reversed(thing[at:at + 2])) + thing[at + 2:])
    return out + [thing[::-1], ()]


def all_bent(paper):
    """All papers that are bent in one place and are not the same as before."""
    told = [put(paper, path, part) for path in places(paper) for part in bent(part_at(paper, path))]
    return [thing for thing in told if kinds(thing) != kinds(paper)]


class Case(unittest.TestCase):
    def shows(self, one, other, thing):
        self.assertIs(shows_way(one, other, thing), True, (one, other, thing))

    def fails(self, one, other, thing):
        before = own_copy(thing)
        self.assertIs(shows_way(one, other, thing), False, (one, other, thing))
        self.assertEqual(kinds(thing), kinds(before))


class PaperTest(Case):
    def test_its_parts(self):
        told = (((1, 2), (2, 3), (1, 2)), ((1, 2), (2, 3, 4), (7, 50)), ((1, 2, 3), (2, 3, 4), (9, 25)))
        self.assertEqual(way_paper(WHOLE, RIGHT), (chain(WHOLE, RIGHT), (told,)))

    def test_no_legs(self):
        for one, other in ((LEFT, LEFT), (LEFT, (4, ())), ((3, ()), (3, ()))):
            self.assertEqual(way_paper(one, other), ((), ()))
            self.shows(one, other, ((), ()))
            self.fails(one, other, ())
            self.fails(one, other, ((),))
            self.fails(one, other, ((), (), ()))
            self.fails(one, other, ((), ((),)))
            self.fails(one, other, ([], ()))
            self.fails(one, other, ((), []))
            self.fails(one, other, [(), ()])

    def test_some_pairs(self):
        for many in range(3, 7):
            for one, other in tries.some_pairs(many, 150, many + 120):
                paper = way_paper(one, other)
                self.assertNotIn("list", str(kinds(paper)))
                self.assertEqual(paper[0], chain(one, other))
                self.assertEqual(len(paper[1]), len(paper[0]))
                first, second = dict(one[1]), dict(other[1])
                for (left, right), table in zip(*paper):
                    sides = [tuple((lot, first[lot]) for lot in left), tuple((lot, second[lot]) for lot in right)]
                    self.assertTrue(tries.table_is_right(table, *sides), (one, other))
                self.shows(one, other, paper)
                self.shows(one, other, own_copy(paper))
                turned = shows_way(other, one, paper)
                self.assertIs(turned, paper[0] == (), (one, other))

    def test_papers_of_other_lengths(self):
        self.fails(WHOLE, RIGHT, way_paper(LEFT, RIGHT))
        self.fails(LEFT, RIGHT, way_paper(WHOLE, RIGHT))
        near = (4, (((1, 2), (4, 1)), ((1, 2, 3), (5, 2))))
        self.assertEqual(chain(near, RIGHT), chain(WHOLE, RIGHT))
        self.fails(near, RIGHT, way_paper(WHOLE, RIGHT))
        twice = (4, (((1, 2), (8, 1)), ((1, 2, 3), (6, 1))))
        self.shows(twice, RIGHT, way_paper(WHOLE, RIGHT))


class OtherTablesTest(Case):
    def test_any_right_table_is_shown(self):
        one, other = SQUARE
        legs = ((((1, 2), (3, 4)), ((1, 3), (2, 4))),)
        for part in range(51):
            self.shows(one, other, (legs, (square_table(Fraction(part, 100)),)))
        self.shows(one, other, (legs, (square_table(Fraction(1, 10 ** 40)),)))

    def test_shares_below_0_or_0_are_wrong(self):
        one, other = SQUARE
        legs = ((((1, 2), (3, 4)), ((1, 3), (2, 4))),)
        for share in (Fraction(-1, 2), Fraction(1), Fraction(-1, 10 ** 40)):
            self.fails(one, other, (legs, (square_table(share),)))
        half, none = (1, 2), (0, 1)
        table = (((1, 2), (1, 3), half), ((1, 2), (2, 4), none), ((3, 4), (1, 3), none), ((3, 4), (2, 4), half))
        self.fails(one, other, (legs, (table,)))
        self.shows(one, other, (legs, (table[:1] + table[3:],)))

    def test_shares_that_only_one_side_has(self):
        one, other = SQUARE
        legs = ((((1, 2), (3, 4)), ((1, 3), (2, 4))),)
        half, third, sixth = (1, 2), (1, 3), (1, 6)
        self.fails(one, other, (legs, ((((1, 2), (1, 3), half), ((3, 4), (1, 3), half)),)))
        self.fails(one, other, (legs, ((((1, 2), (1, 3), half), ((1, 2), (2, 4), half)),)))
        table = (((1, 2), (1, 3), third), ((1, 2), (2, 4), third), ((3, 4), (1, 3), sixth), ((3, 4), (2, 4), sixth))
        self.fails(one, other, (legs, (table,)))

    def test_lots_that_fit_are_not_shared(self):
        one = (4, (((1, 2), (1, 1)), ((1, 2, 3), (1, 1))))
        legs = chain(one, RIGHT)
        right = (((1, 2), (2, 3), (1, 2)), ((1, 2, 3), (2, 3, 4), (1, 2)))
        wrong = (((1, 2), (2, 3), (1, 4)), ((1, 2), (2, 3, 4), (1, 4)), ((1, 2, 3), (2, 3), (1, 4)),
                 ((1, 2, 3), (2, 3, 4), (1, 4)))
        self.shows(one, RIGHT, (legs, (right,)))
        self.fails(one, RIGHT, (legs, (wrong,)))

    def test_a_lot_twice(self):
        one, other = SQUARE
        legs = ((((1, 2), (3, 4)), ((1, 3), (2, 4))),)
        for parts in (((1, 4), (1, 4)), ((1, 6), (1, 3))):
            table = tuple(((1, 2), (1, 3), part) for part in parts) + (((3, 4), (2, 4), (1, 2)),)
            self.fails(one, other, (legs, (table,)))

    def test_out_of_order(self):
        one, other = SQUARE
        legs = ((((1, 2), (3, 4)), ((1, 3), (2, 4))),)
        table = square_table(Fraction(1, 4))
        for at in range(3):
            rows = table[:at] + (table[at + 1], table[at]) + table[at + 2:]
            self.fails(one, other, (legs, (rows,)))

    def test_fractions_not_in_lowest_terms(self):
        one, other = SQUARE
        legs = ((((1, 2), (3, 4)), ((1, 3), (2, 4))),)
        for half in ((2, 4), (-1, -2), (50, 100)):
            table = (((1, 2), (1, 3), half), ((3, 4), (2, 4), (1, 2)))
            self.fails(one, other, (legs, (table,)))
        for part in (1, "1/2", (1, 2, 1), (1,), [1, 2], (1, 0), None, (True, 2), ((1, 1), 2), (1, "2")):
            table = (((1, 2), (1, 3), part), ((3, 4), (2, 4), (1, 2)))
            self.fails(one, other, (legs, (table,)))


class OtherChainsTest(Case):
    def test_another_chain(self):
        parted, whole = way_paper(LEFT, RIGHT), way_paper(WHOLE, RIGHT)
        self.fails(LEFT, RIGHT, (whole[0], parted[1]))
        self.fails(LEFT, RIGHT, (parted[0], whole[1]))
        self.fails(LEFT, RIGHT, (whole[0], ((((1, 2), (2, 3), (9, 25)), ((1, 2, 3), (2, 3, 4), (16, 25))),)))

    def test_alike_quotients_in_two_legs(self):
        one, other = beside((1, 2, 2, 4))
        rows = ((((1, 2), (1, 3), (1, 1)),), (((4, 5), (4, 6), (1, 1)),))
        legs = ((((1, 2),), ((1, 3),)), (((4, 5),), ((4, 6),)))
        self.fails(one, other, (legs, rows))
        self.fails(one, other, (legs[::-1], rows[::-1]))
        legs = ((((1, 2), (4, 5)), ((1, 3), (4, 6))),)
        self.shows(one, other, (legs, ((((1, 2), (1, 3), (1, 5)), ((4, 5), (4, 6), (4, 5))),)))

    def test_legs_in_another_order(self):
        one, other = beside((1, 2, 1, 1))
        legs, tables = way_paper(one, other)
        self.assertEqual(len(legs), 2)
        self.fails(one, other, (legs[::-1], tables[::-1]))
        self.fails(one, other, (legs, tables[::-1]))
        self.fails(one, other, (legs[::-1], tables))

    def test_a_leg_less_or_more(self):
        for one, other in ((LEFT, RIGHT), beside((1, 2, 1, 1))):
            legs, tables = way_paper(one, other)
            for told in ((legs[:1], tables[:1]), (legs[1:], tables[1:]), ((), ()), (legs, tables[:1]),
                         (legs[:1], tables), (legs * 2, tables * 2), (legs + legs[:1], tables + tables[:1]),
                         (legs, tables + tables[:1]), (legs, tables + ((),)), (legs + (((), ()),), tables + ((),))):
                self.fails(one, other, told)

    def test_shared_roads_are_in_no_leg(self):
        one = (4, (((1, 2), (1, 1)), ((1, 2, 3), (1, 1))))
        other = (4, (((1, 2, 3), (1, 1)), ((1, 3), (1, 1))))
        self.shows(one, other, (((((1, 2),), ((1, 3),)),), ((((1, 2), (1, 3), (1, 1)),),)))
        legs = ((((1, 2), (1, 2, 3)), ((1, 2, 3), (1, 3))),)
        self.fails(one, other, (legs, ((((1, 2), (1, 3), (1, 1)),),)))

    def test_lots_in_another_order(self):
        legs, tables = way_paper(*SQUARE)
        self.fails(*SQUARE, ((((legs[0][0])[::-1], legs[0][1]),), tables))
        self.fails(*SQUARE, (((legs[0][0], legs[0][1][::-1]),), tables))


class BentTest(Case):
    def test_bent_in_any_place(self):
        pairs = [(LEFT, RIGHT), (WHOLE, RIGHT), SQUARE, (LEFT, (4, ())), beside((1, 2, 1, 1)), beside((1, 2, 2, 4))]
        for one, other in pairs + tries.some_pairs(6, 6, 1):
            for thing in all_bent(way_paper(one, other)):
                self.fails(one, other, thing)

    def test_true_in_place_of_1(self):
        for one, other in ((LEFT, RIGHT), SQUARE):
            paper = way_paper(one, other)
            found = 0
            for path in places(paper):
                if part_at(paper, path) == 1:
                    thing = put(paper, path, True)
                    self.assertEqual(thing, paper)
                    self.fails(one, other, thing)
                    found += 1
            self.assertGreater(found, 5)

    def test_lists_in_place_of_tuples(self):
        for one, other in ((LEFT, RIGHT), (WHOLE, RIGHT), SQUARE, (LEFT, LEFT)):
            paper = way_paper(one, other)
            for path in places(paper):
                if isinstance(part_at(paper, path), tuple):
                    self.fails(one, other, put(paper, path, list(part_at(paper, path))))

    def test_values_of_other_kinds(self):
        paper = way_paper(LEFT, RIGHT)
        deep = ()
        for _ in range(5000):
            deep = (deep, deep)
        things = [None, 0, 1, -1, 10 ** 50, True, False, "", "paper", str(paper), {}, {paper[0]: paper[1]}, [], (),
                  deep, (deep, deep), (paper[0], deep), (paper[0], (deep, deep)), (paper,), paper + paper, (None, None),
                  (paper[0], None), (None, paper[1]), (paper[0], {}), (paper[0], {0: paper[1]}), (paper[0], "ab"),
                  (paper[0], (None, None)), (paper[0], ((None,), (None,))), (paper[0], (((1, 2, 3),), ((1, 2, 3),)))]
        for thing in things:
            self.assertIs(shows_way(LEFT, RIGHT, thing), False)
        for thing in odd_values():
            self.fails(LEFT, RIGHT, thing)
            self.fails(LEFT, RIGHT, (paper[0], thing))
            self.fails(LEFT, RIGHT, (thing, paper[1]))
            self.fails(LEFT, RIGHT, (paper[0], (paper[1][0], thing)))
            self.fails(LEFT, RIGHT, (paper[0], (paper[1][0], (thing,))))
            for at in range(3):
                row = paper[1][1][0]
                row = row[:at] + (thing,) + row[at + 1:]
                self.fails(LEFT, RIGHT, (paper[0], (paper[1][0], (row,))))


if __name__ == "__main__":
    unittest.main()

"""Point 12: texts of trees, and what is none."""

import re
import unittest
from fractions import Fraction

from treespace.errors import BadText, BadTree
from treespace.texts import read, write
from treespace.trees import shapes
from tests import tries
from tests.test_trees_errors import ALL_NO_TREES, Case
from tests.values import kinds, odd_values

TREE = (4, (((1, 2), (3, 2)), ((1, 2, 3), (5, 1))))
TEXT = "4: 1 2 = 3/2; 1 2 3 = 5;"


def some_trees():
    """Trees of all shapes with three to five tips, and some with six."""
    turn = tries.numbers(700)
    lengths = ((1, 2), (1, 1), (9, 1), (10, 1), (99, 2), (100, 1), (101, 2), (499, 1), (500, 1), (999, 2))
    told = [(many, shape) for many in range(3, 6) for roads in range(many - 1) for shape in shapes(many, roads)]
    told.extend((6, shape) for roads in range(5) for shape in shapes(6, roads)[::9])
    return [(many, tries.with_lengths(turn, shape, lengths)) for many, shape in told]


def by_hand(tree):
    """The text of a tree, made otherwise than in the program."""
    roads = []
    for lot, length in tree[1]:
        roads.append(" %s = %s;" % (" ".join("%d" % tip for tip in lot), tries.value(length)))
    return "%d:%s" % (tree[0], "".join(roads))


def tree_of(text):
    """The tree of a text, or None if it is none, told otherwise than in the program."""
    if not re.fullmatch("[3-6]:( [1-6]( [1-6])+ = [1-9][0-9]{0,2}(/2)?;)*", text):
        return None
    many, roads = int(text[0]), []
    for words, number, half in re.findall(" ([1-6 ]+) = ([0-9]+)(/2)?;", text):
        lot, length = tuple(int(word) for word in words.split(" ")), Fraction(int(number), 2 if half else 1)
        if list(lot) != sorted(set(lot)) or lot[-1] > many or len(lot) == many or length > 500:
            return None
        if half and length.denominator == 1:
            return None
        roads.append((lot, (length.numerator, length.denominator)))
    lots = [lot for lot, _ in roads]
    if lots != sorted(set(lots)) or not all(tries.fit(lot, by) for lot in lots for by in lots):
        return None
    return (many, tuple(roads))


class WriteTest(Case):
    def test_some_by_hand(self):
        self.assertEqual(write(TREE), TEXT)
        self.assertEqual(write((3, (((2, 3), (500, 1)),))), "3: 2 3 = 500;")
        six = (6, (((1, 2, 4, 5, 6), (999, 2)), ((5, 6), (1, 2))))
        self.assertEqual(write(six), "6: 1 2 4 5 6 = 999/2; 5 6 = 1/2;")
        for many in range(3, 7):
            self.assertEqual(write((many, ())), "%d:" % many)

    def test_some_trees(self):
        for tree in some_trees():
            self.assertEqual(kinds(write(tree)), kinds(by_hand(tree)))

    def test_no_trees(self):
        for tree in ALL_NO_TREES + odd_values() + [TEXT]:
            self.bad(BadTree, write, tree)


class ReadTest(Case):
    def test_some_by_hand(self):
        self.assertEqual(read(TEXT), TREE)
        self.assertEqual(read("6: 5 6 = 1/2;"), (6, (((5, 6), (1, 2)),)))
        for many in range(3, 7):
            self.assertEqual(read("%d:" % many), (many, ()))

    def test_the_text_of_a_tree_is_read(self):
        for tree in some_trees():
            self.assertEqual(kinds(read(write(tree))), kinds(tree))

    def test_all_lengths(self):
        for top in range(1002):
            road = "3: 1 2 = %d;" % top
            half = "3: 1 2 = %d/2;" % top
            if 1 <= top <= 500:
                self.assertEqual(read(road), (3, (((1, 2), (top, 1)),)))
            else:
                self.bad(BadText, read, road)
            if top % 2 == 1 and top < 1000:
                self.assertEqual(read(half), (3, (((1, 2), (top, 2)),)))
            else:
                self.bad(BadText, read, half)


class NoTextsTest(Case):
    def refused(self, *texts):
        for text in texts:
            self.bad(BadText, read, text)

    def test_values_that_are_no_texts(self):
        for value in odd_values() + [TREE, [TEXT], (TEXT,), {TEXT: TEXT}, list(TEXT), 4, None]:
            self.refused(value)

    def test_empty_and_nearly_empty_texts(self):
        self.refused("", " ", ":", ";", ": ", ":;", "4", "4;", "=", " = ", "\n", "4: ;", "4:;", "4: ", " 4:", "4 :")
        self.refused("4::")

    def judged(self, text):
        """Whether a text is one, after it has been read or refused as it should be."""
        known = tree_of(text)
        if known is None:
            self.refused(text)
        else:
            self.assertEqual(kinds(read(text)), kinds(known))
        return known is not None

    def test_a_sign_less_at_any_place(self):
        for text in (TEXT, "3: 1 2 = 12;", "6: 1 2 = 500; 1 2 3 = 999/2;"):
            found = [self.judged(text[:at] + text[at + 1:]) for at in range(len(text))]
            self.assertLess(found.count(True), 8)

    def test_a_sign_more_at_any_place(self):
        signs = " \n\t\r;:=/+-._,a0123\u0662\u00b2\xa0\0"
        for text in (TEXT, "3: 1 2 = 12;", "6: 1 2 = 50; 1 2 3 = 99/2;"):
            found = [self.judged(text[:at] + sign + text[at:]) for sign in signs for at in range(len(text) + 1)]
            self.assertLess(found.count(True), 30)

    def test_another_sign_at_any_place(self):
        for text in (TEXT, "3: 1 2 = 12;", "6: 1 2 = 50; 1 2 3 = 99/2;"):
            found = [self.judged(text[:at] + sign + text[at + 1:])
                     for sign in " \n\t;:=/+-._,a0123456789" for at in range(len(text))]
            self.assertGreater(found.count(False), 200)

    def test_two_parts_in_each_others_place(self):
        parts = re.findall("[0-9]+|[^0-9]", "6: 1 2 = 50; 1 2 3 = 99/2; 5 6 = 1;")
        for at in range(len(parts)):
            for other in range(at):
                told = list(parts)
                told[at], told[other] = told[other], told[at]
                self.judged("".join(told))

    def test_blanks(self):
        self.refused("4:1 2 = 3;", "4:  1 2 = 3;", "4: 1  2 = 3;", "4: 12 = 3;", "4: 1 2= 3;", "4: 1 2 =3;")
        self.refused("4: 1 2=3;")
        self.refused("4: 1 2  = 3;", "4: 1 2 =  3;", "4: 1 2 = 3 ;", "4: 1 2 = 3; ", " 4: 1 2 = 3;", "4 : 1 2 = 3;")
        self.refused("4: 1 2 = 3 /2;", "4: 1 2 = 3/ 2;", "4: 1 2 = 3;1 2 3 = 5;", "4: 1 2 = 3;  1 2 3 = 5;")
        self.refused("4:\t1 2 = 3;", "4: 1\t2 = 3;", "4: 1\xa02 = 3;", "4:\n1 2 = 3;", "4: 1 2 = 3;\n1 2 3 = 5;")

    def test_tips_and_lots_that_do_not_rise(self):
        self.refused("4: 2 1 = 3;", "4: 1 1 = 3;", "4: 1 3 2 = 3;", "4: 1 2 2 = 3;")
        self.refused("4: 1 2 3 = 5; 1 2 = 3/2;", "4: 1 2 = 3; 1 2 = 3;", "4: 3 4 = 3; 1 2 = 3;")

    def test_no_lots_and_no_shapes(self):
        self.refused("4: 1 = 3;", "4:  = 3;", "4: = 3;", "4: 1 2 3 4 = 3;", "4: 1 5 = 3;", "4: 0 1 = 3;")
        self.refused("3: 1 2 3 = 1;")
        self.refused("4: 1 2 = 3; 2 3 = 1;", "4: 1 2 = 1; 1 2 3 = 1; 3 4 = 1;", "6: 1 6 7 = 1;")

    def test_numbers_of_tips(self):
        self.refused("2:", "7:", "0:", "10:", "-4:", "+4:", "04:", "4.0:", "four:", "2: 1 2 = 1;", "7: 1 2 = 1;", "44:")

    def test_numbers_with_signs(self):
        self.refused("4: +1 2 = 3;", "4: 1 +2 = 3;", "4: -1 2 = 3;", "4: 1 2 = +3;", "4: 1 2 = -3;", "4: 1 2 = 3/-2;")
        self.refused("4: 1 2 = -3/2;", "4: 1 2 = 3/+2;", "4: 1 2 = 1_0;", "4: 1 2 = 3.0;", "4: 1 2 = 3e1;")
        self.refused("4: 1 2 = 0x3;")

    def test_leading_zeros(self):
        self.refused("4: 01 2 = 3;", "4: 1 02 = 3;", "4: 1 2 = 03;", "4: 1 2 = 003;", "4: 1 2 = 03/2;")
        self.refused("4: 1 2 = 3/02;")
        self.refused("004:", "4: 1 2 = 0500;", "4: 1 2 = 00;")

    def test_other_signs_for_digits(self):
        for three in ("\u0663", "\u06f3", "\u0969", "\uff13", "\u00b3", "\u2462", "\u2083", "III", "\U0001d7d1"):
            self.refused("4: 1 2 = %s;" % three, "4: 1 %s = 3;" % three, "4: 1 2 = %s/2;" % three, "%s:" % three)
            self.refused("4: 1 2 = 1%s;" % three)
        for two in ("\u0662", "\uff12", "\u00b2"):
            self.refused("4: 1 2 = 3/%s;" % two)

    def test_lengths_not_in_lowest_terms(self):
        self.refused("4: 1 2 = 2/2;", "4: 1 2 = 4/2;", "4: 1 2 = 1000/2;", "4: 1 2 = 3/1;", "4: 1 2 = 500/1;")
        self.refused("4: 1 2 = 2/4;")

    def test_other_lengths(self):
        self.refused("4: 1 2 = 0;", "4: 1 2 = 0/2;", "4: 1 2 = 0/1;", "4: 1 2 = 501;", "4: 1 2 = 1001/2;")
        self.refused("4: 1 2 = 5000;")
        self.refused("4: 1 2 = 1/3;", "4: 1 2 = 1/4;", "4: 1 2 = 1/0;", "4: 1 2 = 1/;", "4: 1 2 = /2;", "4: 1 2 = /;")
        self.refused("4: 1 2 = 1/2/2;", "4: 1 2 = 1//2;", "4: 1 2 = ;", "4: 1 2 = 3 = 3;", "4: 1 2 = 3 4;", "4: 1 2;")

    def test_very_many_digits(self):
        for count in (4, 10, 100, 5000, 10 ** 5):
            self.refused("4: 1 2 = %s;" % ("9" * count), "4: 1 2 = 1%s;" % ("0" * count), "4: %s = 3;" % ("1" * count))
            self.refused("4: 1 2 = 3/%s;" % ("2" * count), "%s:" % ("4" * count), "4: 1 2 = %s3;" % ("0" * count))

    def test_semicolons_and_colons(self):
        self.refused("4: 1 2 = 3", "4: 1 2 = 3/2; 1 2 3 = 5", "4: 1 2 = 3/2 1 2 3 = 5;", "4: 1 2 = 3;;", "4:; 1 2 = 3;")
        self.refused("4 1 2 = 3;", "4; 1 2 = 3;", "4:: 1 2 = 3;", "4: 1 2 : 3;", "4: 1 2 = 3:", "4: 1 2 = 3,")

    def test_the_end_of_a_line(self):
        self.refused(TEXT + "\n", "\n" + TEXT, "4:\n", TEXT + "\r\n", "4: 1 2 = 3/2;\n 1 2 3 = 5;", TEXT + "\n" + TEXT)
        self.refused(TEXT * 2)

    def test_more_behind_it(self):
        self.refused(TEXT + "x", TEXT + " ", TEXT + "\0", TEXT + " 4", TEXT + " 1 2 4 = 1;", TEXT + "\ufeff")
        self.refused("\ufeff" + TEXT)

    def test_long_texts(self):
        self.refused("4:" + " 1 2 = 3;" * 20000, "4: " + "1 " * 20000 + "= 3;", " " * 10 ** 5, ";" * 10 ** 5)


if __name__ == "__main__":
    unittest.main()

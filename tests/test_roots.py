"""Sums of roots: what root, plus, times, sign and figures give."""

import unittest
from fractions import Fraction
from math import floor, gcd, isqrt

from treespace.roots import figures, plus, root, sign, times
from tests.values import kinds

ONE = ((1, (1, 1)),)
GOLDEN = ((1, (1, 2)), (5, (1, 2)))
PRIMES = [2, 3, 5, 7, 11, 13, 17, 19, 23, 29, 31, 37, 41, 43, 47, 53, 59, 61, 67, 71]
WIDE = 999999999999998
WIDE_ODD = 999999999999997


def minus(one):
    return times(((1, (-1, 1)),), one)


def step(number):
    """The root of number + 1 less the root of number: small, and above 0."""
    return plus(root((number + 1, 1)), minus(root((number, 1))))


def power(one, times_over):
    """A sum by itself so many times over; it is passed only while it is short enough."""
    out = ONE
    for _ in range(times_over):
        out = times(out, one)
    return out


def bounds(one, bits):
    """Two fractions around the value of a sum, told without the program."""
    low, high = Fraction(0), Fraction(0)
    for radicand, (top, under) in one:
        below = Fraction(isqrt(radicand << (2 * bits)), 1 << bits)
        above = below if radicand == 1 else below + Fraction(1, 1 << bits)
        part = Fraction(top, under)
        low += part * (below if part > 0 else above)
        high += part * (above if part > 0 else below)
    return low, high


class RootTest(unittest.TestCase):
    def test_of_nothing(self):
        self.assertEqual(root((0, 1)), ())

    def test_of_squares(self):
        self.assertEqual(root((1, 1)), ((1, (1, 1)),))
        self.assertEqual(root((9, 4)), ((1, (3, 2)),))
        self.assertEqual(root((1, 900)), ((1, (1, 30)),))

    def test_with_square_factors(self):
        self.assertEqual(root((12, 1)), ((3, (2, 1)),))
        self.assertEqual(root((16, 3)), ((3, (4, 3)),))
        self.assertEqual(root((72, 1)), ((2, (6, 1)),))
        self.assertEqual(root((27, 8)), ((6, (3, 4)),))
        self.assertEqual(root((1, 12)), ((3, (1, 6)),))
        self.assertEqual(root((32, 1)), ((2, (4, 1)),))
        self.assertEqual(root((6 ** 6 * 30, 1)), ((30, (216, 1)),))

    def test_without_square_factors(self):
        self.assertEqual(root((2, 1)), ((2, (1, 1)),))
        self.assertEqual(root((1, 2)), ((2, (1, 2)),))
        self.assertEqual(root((10, 21)), ((210, (1, 21)),))

    def test_lows_meet_the_outside(self):
        self.assertEqual(root((8, 9)), ((2, (2, 3)),))
        self.assertEqual(root((1, 8)), ((2, (1, 4)),))

    def test_at_the_limits(self):
        self.assertEqual(root((10 ** 9, 1)), ((10, (10000, 1)),))
        self.assertEqual(root((10 ** 9 - 1, 1)), ((12345679, (9, 1)),))
        self.assertEqual(root((1, 1000)), ((10, (1, 100)),))
        self.assertEqual(root((999999999999, 1000)), ((1111111111110, (3, 100)),))
        self.assertEqual(root((999983 ** 2, 1000)), ((10, (999983, 100)),))
        self.assertEqual(root((999 * 10 ** 9 - 1, 999)), ((998999999999 * 111, (1, 333)),))
        self.assertEqual(root((996999999989, 997)), ((996999999989 * 997, (1, 997)),))

    def test_large_prime_squares(self):
        self.assertEqual(root((31607 ** 2, 1)), ((1, (31607, 1)),))
        self.assertEqual(root((2 * 22349 ** 2, 1)), ((2, (22349, 1)),))
        self.assertEqual(root((997 ** 3, 1)), ((997, (997, 1)),))
        self.assertEqual(root((31607 * 31601, 1)), ((31607 * 31601, (1, 1)),))

    def test_roots_by_themselves_are_the_fractions(self):
        for top in range(1, 130):
            for low in range(1, 40):
                if gcd(top, low) != 1:
                    continue
                found = root((top, low))
                (radicand, part), = found
                self.assertTrue(all(radicand % (k * k) for k in range(2, radicand)), found)
                self.assertGreater(part[0], 0)
                self.assertEqual(times(found, found), ((1, (top, low)),))

    def test_root_may_be_passed_on(self):
        for one in [(996999999989, 997), (10 ** 9, 1), (999999999999, 1000), (999 * 10 ** 9 - 1, 999)]:
            self.assertEqual(sign(root(one)), 1)


class PlusTest(unittest.TestCase):
    def test_nothing(self):
        self.assertEqual(plus((), ()), ())
        self.assertEqual(plus(GOLDEN, ()), GOLDEN)
        self.assertEqual(plus((), GOLDEN), GOLDEN)

    def test_radicands_rise(self):
        self.assertEqual(
            plus(((2, (1, 1)), (7, (1, 3))), ((1, (5, 1)), (3, (-1, 2)), (11, (1, 1)))),
            ((1, (5, 1)), (2, (1, 1)), (3, (-1, 2)), (7, (1, 3)), (11, (1, 1))),
        )

    def test_radicands_meet(self):
        self.assertEqual(plus(((2, (1, 6)),), ((2, (1, 3)),)), ((2, (1, 2)),))
        self.assertEqual(plus(((2, (1, 6)), (3, (1, 1))), ((2, (5, 6)),)), ((2, (1, 1)), (3, (1, 1))))

    def test_radicands_cancel(self):
        self.assertEqual(plus(((2, (1, 6)),), ((2, (-1, 6)),)), ())
        self.assertEqual(plus(((2, (1, 6)), (3, (1, 1))), ((1, (1, 1)), (2, (-1, 6)))), ((1, (1, 1)), (3, (1, 1))))
        self.assertEqual(plus(root((18, 1)), minus(plus(root((8, 1)), root((2, 1))))), ())

    def test_as_many_pairs_as_may_be(self):
        one = tuple((radicand, (1, 1)) for radicand in PRIMES)
        other = tuple((radicand, (1, 1)) for radicand in sorted(2 * prime for prime in PRIMES[1:] + [73]))
        both = plus(one, other)
        self.assertEqual(len(both), 40)
        self.assertEqual(both, tuple(sorted(one + other)))

    def test_large_fractions(self):
        huge = (10 ** 400 + 1, 10 ** 300)
        self.assertEqual(plus(((2, huge),), ((2, (-1, 10 ** 300)),)), ((2, (10 ** 100, 1)),))

    def test_radicand_below_the_limit(self):
        self.assertEqual(plus(((WIDE_ODD, (1, 1)),), ((WIDE, (1, 2)),)), ((WIDE_ODD, (1, 1)), (WIDE, (1, 2))))


class TimesTest(unittest.TestCase):
    def test_nothing(self):
        self.assertEqual(times((), GOLDEN), ())
        self.assertEqual(times(GOLDEN, ()), ())
        self.assertEqual(times((), ()), ())

    def test_one(self):
        self.assertEqual(times(ONE, GOLDEN), GOLDEN)
        self.assertEqual(times(GOLDEN, ONE), GOLDEN)

    def test_roots_meet(self):
        self.assertEqual(times(((6, (1, 2)),), ((10, (2, 3)),)), ((15, (2, 3)),))
        self.assertEqual(times(((6, (1, 2)),), ((6, (1, 3)),)), ((1, (1, 1)),))
        self.assertEqual(times(((2, (1, 1)),), ((3, (-5, 7)),)), ((6, (-5, 7)),))

    def test_golden(self):
        self.assertEqual(times(GOLDEN, GOLDEN), plus(GOLDEN, ONE))

    def test_roots_cancel(self):
        one = ((2, (1, 1)), (3, (1, 1)))
        other = ((2, (-1, 1)), (3, (1, 1)))
        self.assertEqual(times(one, other), ((1, (1, 1)),))
        self.assertEqual(times(one, one), ((1, (5, 1)), (6, (2, 1))))
        self.assertEqual(times(((1, (-1, 1)), (2, (1, 1))), ((1, (1, 1)), (2, (1, 1)))), ((1, (1, 1)),))
        self.assertEqual(times(((2, (1, 1)), (6, (1, 1))), ((1, (1, 1)), (3, (-1, 1)))), ((2, (-2, 1)),))

    def test_nested_roots(self):
        self.assertEqual(power(plus(ONE, root((2, 1))), 5), ((1, (41, 1)), (2, (29, 1))))
        three = plus(root((2, 1)), plus(root((3, 1)), root((5, 1))))
        self.assertEqual(times(three, three), ((1, (10, 1)), (6, (2, 1)), (10, (2, 1)), (15, (2, 1))))

    def test_wide_radicands(self):
        product = times(((WIDE_ODD, (1, 1)),), ((WIDE, (1, 2)),))
        self.assertEqual(product, ((WIDE_ODD * WIDE, (1, 2)),))
        self.assertEqual(times(((WIDE, (1, 2)),), ((WIDE, (1, 3)),)), ((1, (WIDE // 2, 3)),))

    def test_as_many_pairs_as_may_be(self):
        one = tuple((radicand, (1, 1)) for radicand in PRIMES)
        other = tuple((prime, (prime, 3)) for prime in [73, 79, 83, 89, 97, 101, 103, 107, 109, 113,
                                                        127, 131, 137, 139, 149, 151, 157, 163, 167, 173])
        product = times(one, other)
        self.assertEqual(len(product), 400)
        self.assertEqual(product, tuple(sorted(
            (mine * yours, part) for mine, _ in one for yours, part in other)))
        self.assertEqual(times(one, one)[0], (1, (sum(PRIMES), 1)))
        self.assertEqual(len(times(one, one)), 191)

    def test_values(self):
        sums = [GOLDEN, step(4), ((1, (-7, 3)), (6, (5, 2)), (15, (-2, 9))), ((2, (1, 3)), (10, (-7, 5)))]
        for one in sums:
            for other in sums:
                low, high = bounds(times(one, other), 300)
                mine, yours = bounds(one, 400)[0], bounds(other, 400)[0]
                self.assertLess(abs(mine * yours - low), Fraction(1, 1 << 250))
                low, high = bounds(plus(one, other), 300)
                self.assertLess(abs(mine + yours - high), Fraction(1, 1 << 250))

    def test_laws(self):
        one, other, third = GOLDEN, ((2, (1, 3)), (10, (-7, 5))), ((1, (-7, 3)), (6, (5, 2)), (15, (-2, 9)))
        self.assertEqual(times(one, plus(other, third)), plus(times(one, other), times(one, third)))
        self.assertEqual(times(times(one, other), third), times(one, times(other, third)))
        self.assertEqual(times(one, other), times(other, one))
        self.assertEqual(plus(one, other), plus(other, one))


class SignTest(unittest.TestCase):
    def test_nothing(self):
        self.assertEqual(sign(()), 0)

    def test_one_pair(self):
        for radicand in (1, 2, 6, WIDE):
            for low in (1, 7, 10 ** 400):
                self.assertEqual(sign(((radicand, (1, low)),)), 1)
                self.assertEqual(sign(((radicand, (-1, low)),)), -1)

    def test_two_pairs(self):
        self.assertEqual(sign(((2, (3, 1)), (3, (-2, 1)))), 1)
        self.assertEqual(sign(((2, (-3, 1)), (3, (2, 1)))), -1)
        self.assertEqual(sign(((1, (-7, 5)), (2, (1, 1)))), 1)
        self.assertEqual(sign(((1, (-17, 12)), (2, (1, 1)))), -1)

    def test_convergents(self):
        top, low = 1, 1
        for turn in range(1500):
            expected = -1 if turn % 2 == 0 else 1
            if turn < 40 or turn % 100 < 2:
                self.assertEqual(sign(((1, (top, 1)), (2, (-low, 1)))), expected, turn)
                self.assertEqual(sign(((1, (-top, low)), (2, (1, 1)))), -expected, turn)
            top, low = top + 2 * low, top + low

    def test_several_roots_that_nearly_cancel(self):
        self.assertEqual(sign(((2, (-3, 1)), (5, (-1, 1)), (10, (1, 1)), (11, (1, 1)))), 1)
        self.assertEqual(sign(((1, (-5, 1)), (2, (-7, 1)), (3, (1, 1)), (5, (1, 1)), (7, (1, 1)), (11, (1, 1)))), -1)
        close = times(times(step(1), step(2)), step(4))
        self.assertEqual(len(close), 8)
        for turns in (1, 2, 7, 30, 120):
            small = power(close, turns)
            self.assertEqual(sign(small), 1, turns)
            self.assertEqual(sign(minus(small)), -1, turns)
            self.assertEqual(sign(plus(small, minus(small))), 0)

    def test_many_roots_that_nearly_cancel(self):
        close = times(times(times(step(1), step(2)), step(4)), step(6))
        self.assertEqual(len(close), 16)
        self.assertEqual([sign(close), sign(minus(close))], [1, -1])
        small = power(close, 20)
        self.assertEqual([sign(small), sign(minus(small))], [1, -1])
        shift = ((1, (1, 10 ** 500)),)
        self.assertEqual([sign(plus(small, minus(shift))), sign(plus(shift, minus(small)))], [1, -1])

    def test_twenty_roots_that_nearly_cancel(self):
        parts = [(-1) ** at * (10 ** 30 + at * at) for at in range(19)]
        some = tuple((radicand, (part, 1)) for radicand, part in zip(PRIMES, parts))
        value, last = bounds(some, 600)[0], bounds(((71, (1, 1)),), 600)[0]
        below = floor(-value / last * 10 ** 100)
        for top, expected in ((below, -1), (below + 1, 1)):
            part = Fraction(top, 10 ** 100).as_integer_ratio()
            self.assertEqual(sign(some + ((71, part),)), expected)

    def test_wide_radicands(self):
        self.assertEqual(sign(((WIDE_ODD, (1, 1)), (WIDE, (-1, 1)))), -1)
        self.assertEqual(sign(((WIDE_ODD, (-1, 1)), (WIDE, (1, 1)))), 1)


class FiguresTest(unittest.TestCase):
    def test_nothing(self):
        for bits in (0, 1, 100, 200):
            self.assertEqual(figures((), bits), 0)

    def test_without_roots(self):
        self.assertEqual(figures(((1, (-3, 1)),), 0), -3)
        self.assertEqual(figures(((1, (-3, 1)),), 5), -96)
        self.assertEqual(figures(((1, (-1, 2)),), 0), -1)
        self.assertEqual(figures(((1, (-1, 2)),), 1), -1)
        self.assertEqual(figures(((1, (-1, 2)),), 2), -2)
        self.assertEqual(figures(((1, (1, 3)),), 0), 0)
        self.assertEqual(figures(((1, (1, 3)),), 200), (1 << 200) // 3)
        self.assertEqual(figures(((1, (-1, 3)),), 200), -((1 << 200) // 3) - 1)
        self.assertEqual(figures(((1, (1, 10 ** 300)),), 200), 0)
        self.assertEqual(figures(((1, (-1, 10 ** 300)),), 200), -1)
        self.assertEqual(figures(((1, (10 ** 300, 1)),), 200), 10 ** 300 << 200)

    def test_one_root(self):
        for bits in (0, 1, 2, 63, 64, 65, 128, 199, 200):
            self.assertEqual(figures(((2, (1, 1)),), bits), isqrt(2 << 2 * bits))
            self.assertEqual(figures(((2, (-1, 1)),), bits), -isqrt(2 << 2 * bits) - 1)
            self.assertEqual(figures(((WIDE, (1, 1)),), bits), isqrt(WIDE << 2 * bits))
        self.assertEqual(figures(((3, (2, 3)),), 10), 1182)

    def test_several_roots(self):
        both = ((2, (1, 1)), (3, (1, 1)))
        self.assertEqual([figures(both, bits) for bits in (0, 1, 4, 10)], [3, 6, 50, 3221])
        self.assertEqual([figures(minus(both), bits) for bits in (0, 1, 4, 10)], [-4, -7, -51, -3222])
        self.assertEqual([figures(GOLDEN, bits) for bits in (0, 8)], [1, 414])
        self.assertEqual(figures(((2, (-1, 1)), (3, (1, 1))), 0), 0)
        self.assertEqual(figures(((2, (1, 1)), (3, (-1, 1))), 0), -1)

    def test_nearly_an_integer(self):
        small = power(times(times(step(1), step(2)), step(4)), 120)
        self.assertEqual([figures(small, bits) for bits in (0, 100, 200)], [0, 0, 0])
        self.assertEqual([figures(minus(small), bits) for bits in (0, 100, 200)], [-1, -1, -1])
        self.assertEqual([figures(plus(ONE, small), bits) for bits in (0, 200)], [1, 1 << 200])
        self.assertEqual([figures(plus(ONE, minus(small)), bits) for bits in (0, 200)], [0, (1 << 200) - 1])
        self.assertEqual(figures(plus(minus(ONE), small), 0), -1)
        self.assertEqual(figures(minus(plus(ONE, small)), 0), -2)

    def test_the_greatest_that_is_not_above(self):
        sums = [GOLDEN, minus(GOLDEN), step(4), ((1, (5, 8)),), ((1, (-5, 8)),), ((2, (1, 3)), (10, (-7, 5))),
                ((1, (-7, 3)), (6, (5, 2)), (15, (-2, 9))), tuple((radicand, (-1, radicand)) for radicand in PRIMES)]
        for one in sums:
            for bits in (0, 1, 2, 3, 5, 60, 130, 200):
                scaled = times(one, ((1, (1 << bits, 1)),))
                found = figures(one, bits)
                below = ((1, (-found, 1)),) if found else ()
                above = ((1, (-found - 1, 1)),) if found != -1 else ()
                if len(one) < 20:
                    self.assertGreaterEqual(sign(plus(scaled, below)), 0)
                    self.assertEqual(sign(plus(scaled, above)), -1)
                low, high = bounds(one, 400)
                self.assertTrue(found <= low * (1 << bits) and high * (1 << bits) < found + 1)


class KindsTest(unittest.TestCase):
    def test_all_is_of_tuples_and_integers(self):
        for value in [root((12, 5)), root((1, 1)), plus(GOLDEN, GOLDEN), times(GOLDEN, GOLDEN), root((0, 1))]:
            text = str(kinds(value))
            self.assertNotIn("list", text)
            self.assertNotIn("bool", text)
        for value in [sign(GOLDEN), sign(()), figures(GOLDEN, 3), figures((), 3)]:
            self.assertIs(type(value), int)


if __name__ == "__main__":
    unittest.main()

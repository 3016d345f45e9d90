import unittest
from decimal import Decimal, localcontext
from fractions import Fraction
from math import isqrt

from rungladders.errors import InvalidNumber, InvalidResistance
from rungladders.exact import Exact
from samples import NO_INTEGERS, NO_RESISTANCES

MOST = 10 ** 40
ROOTS = [(1, -1, 1), (1, 0, 2), (1, 1, 1), (2, 0, 1), (3, -5, 7), (5, 9, 11), (1, -100, 1), (1, 100, 1), (7, 0, 10 ** 12)]
FRACTIONS = [(0, 1, 0), (0, 1, 1), (0, 1, 2), (0, 2, 1), (0, 2, 3), (0, 7, 22), (0, 10 ** 12, 1), (0, 1, 10 ** 12)]
GREAT = [
    (MOST, -MOST, MOST), (MOST, MOST, 1), (1, -MOST, MOST), (1, -MOST, 1), (MOST, 0, MOST - 1), (MOST - 1, 0, MOST),
    (1, MOST, MOST), (MOST, MOST, MOST), (MOST, -MOST, 1), (1, 0, MOST - 1), (MOST - 1, 0, 1),
    (0, MOST, MOST - 1), (0, MOST - 1, MOST), (0, MOST, 1), (0, 1, MOST),
]


def sides(parts, number):
    """-1, 0 or 1, as the number of the equation is less than this one, equal to it or greater."""
    square, line, whole = parts
    rest = whole - square * number * number - line * number
    return (rest > 0) - (rest < 0)


class CompareTest(unittest.TestCase):
    def test_integers_and_pairs(self):
        passed = [*range(25), *[(top, bottom) for top in range(25) for bottom in range(1, 13)]]
        for parts in ROOTS + FRACTIONS + GREAT:
            exact = Exact(*parts)
            for resistance in passed:
                number = Fraction(resistance) if isinstance(resistance, int) else Fraction(*resistance)
                self.assertEqual(exact.compare(resistance), sides(parts, number), (parts, resistance))

    def test_greatest_resistances(self):
        for parts in ROOTS + FRACTIONS + GREAT:
            exact = Exact(*parts)
            for resistance in [(10 ** 12, 1), (10 ** 12, 10 ** 12), (1, 10 ** 12), (0, 10 ** 12), (10 ** 12, 999999999999)]:
                self.assertEqual(exact.compare(resistance), sides(parts, Fraction(*resistance)), (parts, resistance))
            self.assertEqual(exact.compare(10 ** 12), sides(parts, Fraction(10 ** 12)))

    def test_open_end(self):
        for parts in ROOTS + FRACTIONS + GREAT:
            self.assertEqual(Exact(*parts).compare((1, 0)), -1)

    def test_zero(self):
        for zero in (0, (0, 1), (0, 7), (0, 10 ** 12)):
            self.assertEqual(Exact(0, 1, 0).compare(zero), 0)
            self.assertEqual(Exact(0, MOST, 1).compare(zero), 1)
            self.assertEqual(Exact(MOST, MOST, 1).compare(zero), 1)

    def test_the_number_itself(self):
        for parts, resistance in [
            ((0, 1, 3), 3), ((0, 1, 3), (3, 1)), ((0, 1, 3), (6, 2)), ((0, 4, 6), (3, 2)), ((4, 0, 9), (3, 2)),
            ((4, 0, 9), (30, 20)), ((1, -1, 2), 2), ((1, -1, 2), (8, 4)), ((0, 10 ** 12, 10 ** 12 - 1), (10 ** 12 - 1, 10 ** 12)),
            ((0, MOST, MOST), 1), ((0, 1, 10 ** 12), 10 ** 12),
        ]:
            self.assertEqual(Exact(*parts).compare(resistance), 0)

    def test_just_beside_fractions(self):
        bottom = 10 ** 12
        for top in (1, 7, bottom // 2, bottom - 1):
            exact = Exact(0, bottom, top)
            self.assertEqual(exact.compare((top - 1, bottom)), 1)
            self.assertEqual(exact.compare((top, bottom)), 0)
            self.assertEqual(exact.compare((top + 1, bottom)), -1)
            self.assertEqual(Exact(0, bottom * 10 ** 28, top * 10 ** 28 + 1).compare((top, bottom)), 1)
            self.assertEqual(Exact(0, bottom * 10 ** 28, top * 10 ** 28 - 1).compare((top, bottom)), -1)

    def test_just_beside_roots(self):
        for square, line, whole in ROOTS[:6]:
            exact = Exact(square, line, whole)
            for bottom in (10 ** 11, 10 ** 11 + 1, 123456789):
                inside = line * line + 4 * square * whole
                below = (isqrt(inside * bottom * bottom) - line * bottom) // (2 * square)
                self.assertEqual(exact.compare((below, bottom)), 1)
                self.assertEqual(exact.compare((below + 1, bottom)), -1)

    def test_fibonacci_numbers_beside_the_golden_one(self):
        golden, low, high, expected = Exact(1, -1, 1), 1, 1, 1
        while high <= 10 ** 12:
            self.assertEqual(golden.compare((high, low)), expected)
            low, high, expected = high, low + high, -expected

    def test_by_name(self):
        self.assertEqual(Exact(1, -1, 1).compare(resistance=(13, 8)), -1)

    def test_refused(self):
        for exact in (Exact(1, -1, 1), Exact(0, 1, 1), Exact(0, 1, 0)):
            for value in NO_RESISTANCES:
                with self.assertRaises(InvalidResistance) as context:
                    exact.compare(value)
                self.assertIs(context.exception.given, value)
                with self.assertRaises(InvalidResistance) as context:
                    exact.compare(resistance=value)
                self.assertIs(context.exception.given, value)


class FloorTest(unittest.TestCase):
    TIMES = [*range(1, 30), 1000, 999999, 10 ** 12, 10 ** 20 + 1, 3 ** 80, MOST - 1, MOST]

    def test_at_fractions_and_roots(self):
        for parts in ROOTS + FRACTIONS + GREAT:
            exact = Exact(*parts)
            for times in self.TIMES:
                told = exact.floor(times)
                self.assertIs(type(told), int)
                self.assertGreaterEqual(told, 0)
                self.assertIn(sides(parts, Fraction(told, times)), (0, 1), (parts, times))
                self.assertEqual(sides(parts, Fraction(told + 1, times)), -1, (parts, times))

    def test_written_out(self):
        golden, half, two = Exact(1, -1, 1), Exact(0, 2, 1), Exact(1, -1, 2)
        self.assertEqual([golden.floor(times) for times in (1, 2, 3, 5, 8, 1000)], [1, 3, 4, 8, 12, 1618])
        self.assertEqual([half.floor(times) for times in (1, 2, 3, 4, MOST)], [0, 1, 1, 2, MOST // 2])
        self.assertEqual([two.floor(times) for times in (1, 2, MOST)], [2, 4, 2 * MOST])
        self.assertEqual(Exact(0, 1, 0).floor(MOST), 0)
        self.assertEqual(golden.floor(MOST), 16180339887498948482045868343656381177203)
        self.assertEqual(Exact(1, 0, 2).floor(MOST), 14142135623730950488016887242096980785696)

    def test_by_name(self):
        self.assertEqual(Exact(1, -1, 1).floor(times=1000), 1618)

    def test_refused(self):
        for exact in (Exact(1, -1, 1), Exact(0, 2, 3)):
            for value in [0, -1, -MOST, MOST + 1, 9 * MOST, *NO_INTEGERS]:
                with self.assertRaises(InvalidNumber) as context:
                    exact.floor(value)
                self.assertIs(context.exception.given, value)
                with self.assertRaises(InvalidNumber) as context:
                    exact.floor(times=value)
                self.assertIs(context.exception.given, value)


def decimal_root(parts):
    square, line, whole = [Decimal(part) for part in parts]
    if square == 0:
        return whole / line
    return ((line * line + 4 * square * whole).sqrt() - line) / (2 * square)


def decimal_order(first, second):
    """Unlike numbers with parts of up to 10 ** 40 are much farther apart than the bound that is used here."""
    with localcontext() as context:
        context.prec = 600
        apart = decimal_root(first) - decimal_root(second)
        if abs(apart) < Decimal(10) ** -400:
            return 0
        return 1 if apart > 0 else -1


class OrderTest(unittest.TestCase):
    def check(self, first, second, expected):
        one, two = Exact(*first), Exact(*second)
        self.assertEqual(one.order(two), expected, (first, second))
        self.assertEqual(two.order(one), -expected, (second, first))
        self.assertEqual(one == two, expected == 0, (first, second))

    def test_small_numbers(self):
        numbers = [(square, line, whole) for square in range(3) for line in range(-3, 4) for whole in range(4)
                   if (line >= 1 if square == 0 else whole > 0)]
        for first in numbers:
            for second in numbers:
                self.check(first, second, decimal_order(first, second))

    def test_all_samples(self):
        samples = ROOTS + FRACTIONS + GREAT
        for first in samples:
            for second in samples:
                self.check(first, second, decimal_order(first, second))

    def test_equal_numbers_by_other_equations(self):
        for first, second in [
            ((0, 1, 2), (1, -1, 2)), ((0, 2, 3), (4, 0, 9)), ((0, 5, 0), (0, 9, 0)), ((1, -1, 1), (7, -7, 7)),
            ((1, 0, 2), (5 * 10 ** 39, 0, MOST)), ((0, MOST, MOST), (MOST, 0, MOST)), ((1, -MOST, 1), (1, -MOST, 1)),
        ]:
            self.check(first, second, 0)

    def test_root_beside_a_near_fraction(self):
        low, high, expected = 1, 1, 1
        while high <= MOST:
            self.check((1, -1, 1), (0, low, high), expected)
            low, high, expected = high, low + high, -expected
        top = isqrt(2 * 10 ** 78)
        self.check((1, 0, 2), (0, 10 ** 39, top), 1)
        self.check((1, 0, 2), (0, 10 ** 39, top + 1), -1)

    def test_two_near_roots(self):
        # At the golden number these equations differ by low * golden - high, which becomes very small.
        low, high, expected = 1, 1, -1
        while high <= MOST // 20:
            for square in (1, 7, 10 ** 12, 9 * 10 ** 38, 9 * 10 ** 39):
                self.check((square, low - square, high + square), (1, -1, 1), expected)
            low, high, expected = high, low + high, -expected

    def test_one_part_raised_by_1(self):
        for square, line, whole in [(1, -1, 1), (MOST - 1, -MOST, MOST - 1), (MOST - 1, 7, 3), (3, MOST - 1, MOST - 1),
                                    (MOST // 3, -MOST // 7, MOST // 11), (1, -MOST, 1)]:
            self.check((square, line, whole), (square + 1, line, whole), 1)
            self.check((square, line, whole), (square, line + 1, whole), 1)
            self.check((square, line, whole), (square, line, whole + 1), -1)

    def test_great_parts(self):
        seed, parts = 1, []
        for _ in range(40):
            row = []
            for _ in range(3):
                seed = seed * 6364136223846793005 % (10 ** 41 + 9)
                row.append(seed % MOST)
            parts.append((row[0] + 1, row[1] - MOST // 2, row[2] + 1))
        for first in parts:
            for second in parts:
                self.check(first, second, decimal_order(first, second))

    def test_by_name(self):
        self.assertEqual(Exact(1, -1, 1).order(other=Exact(0, 1, 2)), -1)


if __name__ == "__main__":
    unittest.main()

import unittest
from fractions import Fraction
from math import gcd, isqrt

from rungladders.errors import InvalidNumber
from rungladders.exact import Exact
from samples import NO_INTEGERS, NO_RESISTANCES, EqualsNothing

MOST = 10 ** 40


def root_fraction(square, line, whole):
    """The number as a Fraction, None if it is none: found apart from the package."""
    if square == 0:
        return Fraction(whole, line)
    inside = line * line + 4 * square * whole
    if isqrt(inside) ** 2 != inside:
        return None
    return Fraction(isqrt(inside) - line, 2 * square)


class MadeTest(unittest.TestCase):
    def check(self, square, line, whole):
        exact = Exact(square, line, whole)
        number = root_fraction(square, line, whole)
        if number is None:
            common = gcd(square, line, whole)
            parts = (square // common, line // common, whole // common)
            self.assertIsNone(exact.fraction)
            self.assertEqual(exact.equation, parts)
            self.assertEqual(str(exact), "root of {}, {}, {}".format(*parts))
        else:
            top, bottom = number.numerator, number.denominator
            parts = (0, bottom, top)
            self.assertEqual(exact.fraction, (top, bottom))
            self.assertEqual(exact.equation, parts)
            self.assertEqual(str(exact), str(number))
        self.assertEqual(repr(exact), "Exact({}, {}, {})".format(*parts))
        self.assertTrue(exact)
        self.check_kinds(exact)

    def check_kinds(self, exact):
        self.assertIs(type(exact.equation), tuple)
        self.assertEqual([type(part) for part in exact.equation], [int] * 3)
        if exact.fraction is not None:
            self.assertIs(type(exact.fraction), tuple)
            self.assertEqual([type(part) for part in exact.fraction], [int] * 2)

    def test_all_small_equations(self):
        for square in range(7):
            for line in range(-8, 9):
                for whole in range(9):
                    if (square == 0 and line < 1) or (square > 0 and whole == 0):
                        continue
                    self.check(square, line, whole)

    def test_written_out(self):
        for parts, fraction, equation, text in [
            ((0, 1, 0), (0, 1), (0, 1, 0), "0"),
            ((0, 7, 0), (0, 1), (0, 1, 0), "0"),
            ((0, 4, 6), (3, 2), (0, 2, 3), "3/2"),
            ((0, 2, 6), (3, 1), (0, 1, 3), "3"),
            ((0, 1, 1), (1, 1), (0, 1, 1), "1"),
            ((1, -1, 2), (2, 1), (0, 1, 2), "2"),
            ((4, 0, 9), (3, 2), (0, 2, 3), "3/2"),
            ((6, 5, 6), (2, 3), (0, 3, 2), "2/3"),
            ((1, -1, 1), None, (1, -1, 1), "root of 1, -1, 1"),
            ((2, -2, 2), None, (1, -1, 1), "root of 1, -1, 1"),
            ((1, 0, 2), None, (1, 0, 2), "root of 1, 0, 2"),
            ((6, 0, 15), None, (2, 0, 5), "root of 2, 0, 5"),
            ((6, 9, 12), None, (2, 3, 4), "root of 2, 3, 4"),
            ((2, 2, 1), None, (2, 2, 1), "root of 2, 2, 1"),
        ]:
            exact = Exact(*parts)
            with self.subTest(parts=parts):
                self.assertEqual(exact.fraction, fraction)
                self.assertEqual(exact.equation, equation)
                self.assertEqual(str(exact), text)
                self.assertEqual(repr(exact), "Exact({}, {}, {})".format(*equation))

    def test_common_divisors(self):
        for parts in [(1, -1, 1), (3, 5, 7), (2, 0, 3), (1, 4, 1), (1, -1, 2), (0, 3, 2)]:
            for common in (2, 3, 60, 10 ** 12, 10 ** 39):
                told = [part * common for part in parts]
                self.check(*told)
                self.assertEqual(Exact(*told), Exact(*parts))

    def test_greatest_parts(self):
        for square in (0, 1, 2, MOST - 1, MOST):
            for line in (-MOST, 1 - MOST, -1, 0, 1, 7, MOST - 1, MOST):
                for whole in (0, 1, 3, MOST - 1, MOST):
                    if (square == 0 and line < 1) or (square > 0 and whole == 0):
                        continue
                    self.check(square, line, whole)

    def test_great_fractions(self):
        high, low = 10 ** 20 - 1, 10 ** 20 - 3
        self.assertEqual(Exact(low * low, 0, high * high).fraction, (high, low))
        self.assertEqual(Exact(low * low, 0, high * high + 1).fraction, None)
        self.assertEqual(Exact(low * low, 0, high * high - 1).fraction, None)
        self.assertEqual(Exact(0, 10 ** 40, 10 ** 40 - 1).fraction, (10 ** 40 - 1, 10 ** 40))
        self.assertEqual(str(Exact(0, 10 ** 39, 10 ** 40)), "10")
        self.assertEqual(Exact(1, -10 ** 40, 10 ** 40).fraction, None)
        self.assertEqual(Exact(1, 1 - 10 ** 40, 10 ** 40).fraction, (10 ** 40, 1))
        self.assertEqual(Exact(1, 10 ** 40 - 1, 10 ** 40).fraction, (1, 1))

    def test_by_name(self):
        self.assertEqual(Exact(square=2, line=-2, whole=2).equation, (1, -1, 1))
        self.assertEqual(Exact(whole=3, line=2, square=0).fraction, (3, 2))
        self.assertEqual(Exact(0, whole=3, line=2).fraction, (3, 2))

    def test_only_three_parts(self):
        for passed in [(), (1,), (1, 1), (1, 1, 1, 1)]:
            with self.assertRaises(TypeError):
                Exact(*passed)

    def test_properties_are_not_assigned(self):
        exact = Exact(1, -1, 1)
        for name in ("fraction", "equation"):
            with self.assertRaises(AttributeError):
                setattr(exact, name, (1, 1))

    def test_example_of_the_document(self):
        golden = Exact(2, -2, 2)
        self.assertEqual(
            [golden.equation, golden.compare((13, 8)), golden.floor(1000), str(Exact(1, -1, 2)),
             golden.order(Exact(0, 1, 2))],
            [(1, -1, 1), -1, 1618, "2", -1])


class EqualTest(unittest.TestCase):
    def assert_equal_both_ways(self, first, second):
        for a, b in ((first, second), (second, first)):
            self.assertIs(a == b, True)
            self.assertIs(a != b, False)

    def assert_unequal_both_ways(self, first, second):
        for a, b in ((first, second), (second, first)):
            self.assertIs(a == b, False)
            self.assertIs(a != b, True)

    def test_equal_numbers_by_other_equations(self):
        for first, second in [
            ((0, 1, 2), (1, -1, 2)), ((0, 1, 2), (1, 0, 4)), ((0, 2, 3), (4, 0, 9)), ((0, 5, 0), (0, 9, 0)),
            ((1, -1, 1), (7, -7, 7)), ((1, 0, 2), (5 * 10 ** 39, 0, 10 ** 40)), ((1, -3, 4), (1, 0, 16)),
            ((0, 10 ** 40, 10 ** 40), (10 ** 40, 0, 10 ** 40)), ((6, 9, 12), (2, 3, 4)),
        ]:
            self.assert_equal_both_ways(Exact(*first), Exact(*second))

    def test_equal_to_itself(self):
        for exact in (Exact(0, 1, 0), Exact(1, -1, 1)):
            self.assert_equal_both_ways(exact, exact)

    def test_unlike_numbers(self):
        numbers = [
            Exact(0, 1, 0), Exact(0, 1, 1), Exact(0, 1, 2), Exact(0, 2, 1), Exact(0, 8, 13), Exact(1, -1, 1),
            Exact(1, 1, 1), Exact(1, 0, 2), Exact(1, 0, 3), Exact(2, 0, 1), Exact(1, -1, 3), Exact(1, -2, 1),
            Exact(10 ** 40, 0, 10 ** 40 - 1), Exact(10 ** 40 - 1, 0, 10 ** 40), Exact(0, 10 ** 40, 10 ** 40 - 1),
        ]
        for at, first in enumerate(numbers):
            for second in numbers[:at]:
                self.assert_unequal_both_ways(first, second)

    def test_values_of_other_classes(self):
        others = [value for value in NO_INTEGERS + NO_RESISTANCES if "Equals" not in type(value).__name__]
        for exact in (Exact(0, 1, 2), Exact(0, 2, 3), Exact(1, -1, 1), Exact(0, 1, 0), Exact(0, 1, 1)):
            for other in [0, 1, 2, 1.5, (2, 1), (3, 2), Fraction(3, 2), Fraction(2), (0, 1, 2), (0, 2, 3), (1, -1, 1),
                          [1, -1, 1], "2", "3/2", "root of 1, -1, 1", "Exact(1, -1, 1)", Exact, *others]:
                self.assert_unequal_both_ways(exact, other)
            self.assertIs(exact == EqualsNothing(), False)
            self.assertIs(exact != EqualsNothing(), True)


class RefusedTest(unittest.TestCase):
    def assert_refused(self, parts, at):
        for made in (lambda: Exact(*parts), lambda: Exact(**dict(zip(("square", "line", "whole"), parts)))):
            with self.assertRaises(InvalidNumber) as context:
                made()
            self.assertIs(context.exception.given, parts[at])

    def test_no_integers(self):
        for value in NO_INTEGERS:
            self.assert_refused([value, 1, 1], 0)
            self.assert_refused([0, value, 1], 1)
            self.assert_refused([1, value, 1], 1)
            self.assert_refused([0, 1, value], 2)
            self.assert_refused([1, 1, value], 2)

    def test_beyond_the_bounds(self):
        for value in (-1, -MOST, MOST + 1, 9 * MOST):
            self.assert_refused([value, 1, 1], 0)
            self.assert_refused([0, 1, value], 2)
            self.assert_refused([1, 1, value], 2)
        for value in (-MOST - 1, MOST + 1, -9 * MOST, 9 * MOST):
            self.assert_refused([0, value, 1], 1)
            self.assert_refused([1, value, 1], 1)

    def test_the_bounds_themselves(self):
        for parts in [(MOST, MOST, MOST), (MOST, -MOST, MOST), (1, -MOST, 1), (0, 1, 0), (0, MOST, MOST), (1, 0, 1)]:
            Exact(*parts)

    def test_line_below_1_without_square(self):
        for line in (0, -1, -MOST):
            for whole in (0, 1, MOST):
                self.assert_refused([0, line, whole], 1)
                Exact(1, line, 1)

    def test_whole_of_0_with_square(self):
        for square in (1, 2, MOST):
            for line in (-MOST, -1, 0, 1, MOST):
                self.assert_refused([square, line, 0], 2)
        Exact(0, 1, 0)

    def test_first_wrong_one(self):
        for wrong_square in (-1, MOST + 1, None, True, "1"):
            for wrong_line in (-MOST - 1, MOST + 1, None, False, "1"):
                for wrong_whole in (-1, MOST + 1, None, False, "1"):
                    self.assert_refused([wrong_square, wrong_line, wrong_whole], 0)
                    self.assert_refused([wrong_square, wrong_line, 1], 0)
                    self.assert_refused([wrong_square, 1, wrong_whole], 0)
                    self.assert_refused([1, wrong_line, wrong_whole], 1)
                    self.assert_refused([0, wrong_line, wrong_whole], 1)
                    self.assert_refused([0, 0, wrong_whole], 1)


if __name__ == "__main__":
    unittest.main()

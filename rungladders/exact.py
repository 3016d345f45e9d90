"""Numbers that are told exactly: fractions, and roots of quadratic equations."""

from rungladders.basics import (
    common_divisor, fraction_text, is_integer_within, is_resistance, lowest_terms, pair_of, pair_order, sign,
    square_root,
)
from rungladders.errors import InvalidNumber, InvalidResistance
from rungladders.limits import OPEN

GREATEST_PART = 10 ** 40


class Exact:
    """The number x of at least 0 with square * x * x + line * x = whole."""

    def __init__(self, square, line, whole):
        if not is_integer_within(square, 0, GREATEST_PART):
            raise InvalidNumber(square)
        if not is_integer_within(line, -GREATEST_PART, GREATEST_PART) or (square == 0 and line < 1):
            raise InvalidNumber(line)
        if not is_integer_within(whole, 0, GREATEST_PART) or (square != 0 and whole == 0):
            raise InvalidNumber(whole)
        # Each number has just one simplest equation, so equal parts mean equal numbers.
        self.parts = simplest_equation(square, line, whole)

    @property
    def fraction(self):
        square, line, whole = self.parts
        if square == 0:
            return (whole, line)
        return None

    @property
    def equation(self):
        return self.parts

    def compare(self, resistance):
        """-1, 0 or 1, as the number is less than the resistance, equal to it or greater."""
        if not is_resistance(resistance):
            raise InvalidResistance(resistance)
        top, bottom = pair_of(resistance)
        if (top, bottom) == OPEN:
            return -1
        return beside_fraction(self.parts, top, bottom)

    def floor(self, times):
        """The greatest integer that is at most times * x."""
        if not is_integer_within(times, 1, GREATEST_PART):
            raise InvalidNumber(times)
        return floor_of(self.parts, times)

    def order(self, other):
        """-1, 0 or 1, as the number is less than the other one, equal to it or greater."""
        square, line, whole = self.parts
        other_square, other_line, other_whole = other.parts
        if other_square == 0:
            return beside_fraction(self.parts, other_whole, other_line)
        # At the other number y, where other_square * y * y = other_whole - other_line * y, the sides
        # of the own equation differ by (slope * y - height) / other_square: above 0 if y is greater.
        slope = line * other_square - other_line * square
        height = whole * other_square - other_whole * square
        return -sign_along_line(other.parts, slope, height)

    def __eq__(self, other):
        return isinstance(other, Exact) and self.parts == other.parts

    def __str__(self):
        if self.parts[0] == 0:
            return str(fraction_text(self.parts[2], self.parts[1]))
        return f"root of {with_commas(self.parts)}"

    def __repr__(self):
        return f"Exact({with_commas(self.parts)})"


def under_root(square, line, whole):
    return line * line + 4 * square * whole


def simplest_equation(square, line, whole):
    """(0, bottom, top) for a fraction, else the equation without common divisors."""
    if square == 0:
        return equation_of_fraction(whole, line)
    inside = under_root(square, line, whole)
    root = square_root(inside)
    if root * root == inside:
        return equation_of_fraction(root - line, 2 * square)
    divisor = common_divisor(common_divisor(square, line), whole)
    return (square // divisor, line // divisor, whole // divisor)


def equation_of_fraction(top, bottom):
    top_part, bottom_part = lowest_terms(top, bottom)
    return (0, bottom_part, top_part)


def floor_of(parts, times):
    """The greatest integer that is at most times * x, where x is the number with these parts."""
    square, line, whole = parts
    if square == 0:
        return times * whole // line
    # Rounding the root down first loses nothing, as only integers are taken from it and divide it.
    root = square_root(times * times * under_root(square, line, whole))
    return (root - times * line) // (2 * square)


def beside_fraction(parts, top, bottom):
    """-1, 0 or 1, as the number with these parts is less than top / bottom, equal to it or greater."""
    square, line, whole = parts
    # From 0 up to the number the left side of its equation is less than the right one, behind it greater.
    return sign(whole * bottom * bottom - line * top * bottom - square * top * top)


def sign_along_line(parts, slope, height):
    """The sign of slope * x - height, where x is the number with these parts."""
    if slope < 0:
        return -sign_along_line(parts, -slope, -height)
    # The number is at least 0, so that it is not less than a fraction below 0.
    if slope == 0 or height < 0:
        return sign(-height)
    return beside_fraction(parts, height, slope)


def limit_beside(limit, pair):
    """-1, 0 or 1, as a limit, an Exact or OPEN, is less than a fraction or an open end, equal to it or greater."""
    if limit == OPEN:
        return pair_order(OPEN, pair)
    top, bottom = pair
    if bottom == 0:
        return -1
    return beside_fraction(limit.parts, top, bottom)


def limits_order(limit, other_limit):
    """-1, 0 or 1, as the limit is less than the other one, equal to it or greater."""
    if other_limit == OPEN:
        return limit_beside(limit, OPEN)
    if limit == OPEN:
        return 1
    return limit.order(other_limit)


def with_commas(parts):
    return ", ".join([str(part) for part in parts])

"""Parabolas (k, l, m), which stand for k * x * x + l * x + m, and tell which of two patterns shows more where."""

from rungladders.basics import pair_order, sign
from rungladders.exact import limit_beside, sign_along_line
from rungladders.limits import OPEN


def difference(matrix, other_matrix):
    """The parabola that is above 0 just in front of those loads where the first pattern shows more."""
    a, b, c, d = matrix
    other_a, other_b, other_c, other_d = other_matrix
    # Both patterns show a quotient; this is what is left of their difference without its bottom, which is above 0.
    square = a * other_c - other_a * c
    line = a * other_d + b * other_c - other_a * d - other_b * c
    whole = b * other_d - other_b * d
    return (square, line, whole)


def times(parabola, factor):
    square, line, whole = parabola
    return (square * factor, line * factor, whole * factor)


def sign_at(parabola, pair):
    """The sign at a fraction, or in front of an open end."""
    square, line, whole = parabola
    top, bottom = pair
    return sign(square * top * top + line * top * bottom + whole * bottom * bottom)


def sign_far_out(parabola):
    """The sign that all great enough fractions have in common."""
    square, line, whole = parabola
    return sign(square) or sign(line) or sign(whole)


def sign_from(parabola, pair):
    """The sign at a fraction, and far out if the pair is an open end."""
    # In front of the open end itself two patterns may show the same, but not in front of the fractions next to it.
    return sign_far_out(parabola) if pair[1] == 0 else sign_at(parabola, pair)


def sign_towards(parabola, limit):
    """The sign at a limit, and far out if this is an open end."""
    square, line, whole = parabola
    if limit == OPEN:
        return sign_far_out(parabola)
    limit_square, limit_line, limit_whole = limit.parts
    if limit_square == 0:
        return sign_at(parabola, (limit_whole, limit_line))
    # The equation of the limit turns its square into a line.
    slope = line * limit_square - square * limit_line
    height = -whole * limit_square - square * limit_whole
    return sign_along_line(limit.parts, slope, height)


def never_below(parabola, pair, limit):
    """Whether the parabola is at least 0 from the pair on to the limit, which may lie on either side."""
    # What is so far out is so at the open end, too, as the square alone tells the sign there.
    if sign_from(parabola, pair) < 0 or sign_towards(parabola, limit) < 0:
        return False
    square, line, whole = parabola
    if square <= 0 or line >= 0 or line * line <= 4 * square * whole:
        return True
    # The lowest point lies below 0, so it must not lie between the two ends.
    lowest = (-line, 2 * square)
    return pair_order(pair, lowest) == limit_beside(limit, lowest)

"""Rows of pieces with fractions as ohms that show the same as a pattern."""

from rungladders.basics import lowest_terms
from rungladders.checks import check_pattern


def star(pattern):
    """The row rail, rung, rail that shows the same as the pattern, without rails of 0 ohms."""
    check_pattern(pattern)
    a, b, c, d = pattern.matrix
    if c == 0:
        return (piece("rail", b, pattern.scale),)
    return star_row(a - pattern.scale, pattern.scale, d - pattern.scale, c)


def ring(pattern):
    """The row rung, rail, rung that shows the same as the pattern, without rungs that are open ends."""
    check_pattern(pattern)
    a, b, c, d = pattern.matrix
    if b == 0:
        return (piece("rung", pattern.scale, c),)
    front, back = d - pattern.scale, a - pattern.scale
    row = [piece("rail", b, pattern.scale)]
    if front > 0:
        row = [piece("rung", b, front)] + row
    if back > 0:
        row = row + [piece("rung", b, back)]
    return tuple(row)


def repetition(pattern):
    """The greatest number of times that a row can stand in the place of the pattern, and this row."""
    check_pattern(pattern)
    a, b, c, d = pattern.matrix
    if b == 0 or c == 0:
        return None
    total, bottom = lowest_terms(a + d, pattern.scale)
    # For the row that is repeated a + d is above 2. If this is an integer, it is at least 3, and that of k rows is
    # above 2 ** k; else its bottom is at least 2, and that of k rows has the power of this with k as its bottom.
    for count in reversed(range(1, total.bit_length() + 1)):
        root = whole_root(bottom, count)
        if root is not None:
            row = repeated_row(pattern, count, total, root)
            if row is not None:
                return (count, row)
    return None


def repeated_row(pattern, count, total, bottom):
    """The row that shows, so many times over, the same as the pattern, None if there is none."""
    top = sum_of_root(count, total, bottom)
    if top is None:
        return None
    # With t as the sum of a and d of the row N, its power is more * N - less * 1, where both grow with t alone.
    less, more = chain(0, 1, top, bottom, count - 1)
    a, b, c, d = pattern.matrix
    shares = power(bottom, count - 1)
    lost = (more - less * bottom) * pattern.scale
    front, back = a * shares - lost, d * shares - lost
    if front < 0 or back < 0:
        return None
    return star_row(front, more * pattern.scale, back, c * shares)


def sum_of_root(count, total, bottom):
    """The top over this bottom of the sum of a and d of a row whose power has the total, None if there is none."""
    low, high = 2 * bottom, total
    while low < high:
        middle = (low + high) // 2
        if chain(2, middle, middle, bottom, count - 1)[1] < total:
            low = middle + 1
        else:
            high = middle
    return low if chain(2, low, low, bottom, count - 1)[1] == total else None


def chain(first, second, top, bottom, steps):
    """Two neighbours of a row in which each number is t times the one ahead of it less the one ahead of that."""
    # Each is told times one more power of the bottom of t = top / bottom, so that all are integers.
    for step in range(steps):
        first, second = second, top * second - bottom * bottom * first
    return (first, second)


def whole_root(number, count):
    """The integer whose power with this exponent is the number, None if there is none."""
    low, high = 1, number
    while low < high:
        middle = (low + high) // 2
        if power(middle, count) < number:
            low = middle + 1
        else:
            high = middle
    return low if power(low, count) == number else None


def power(base, exponent):
    product = 1
    for factor in range(exponent):
        product = product * base
    return product


def star_row(front, middle, back, bottom):
    """The row rail, rung, rail with these tops over one bottom."""
    row = [piece("rail", front, bottom), piece("rung", middle, bottom), piece("rail", back, bottom)]
    return tuple([part for part in row if part[1][0] > 0])


def piece(word, top, bottom):
    return (word, lowest_terms(top, bottom))

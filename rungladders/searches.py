"""The least number of sections with which something holds, also where it is far behind 10 ** 12."""

from rungladders.basics import common_divisor
from rungladders.patterns import shown_before


def least_number(run, holds):
    """The least number at which what the run shows has this property, which it has from some number on for ever."""
    begin, pattern = run.last_stage()
    pair = run.load
    for number in range(begin):
        if holds(pair):
            return number
        pair = run.after(pair)
    return begin + sections_before(pattern.matrix, pair, holds)


def sections_before(matrix, pair, holds):
    """The least number of sections in front of the pair with which the property holds."""
    if holds(pair):
        return 0
    powers = [matrix]
    while not holds(shown_before(powers[-1], pair)):
        powers.append(squared(powers[-1]))
    # Now the greatest number of sections without the property is found bit by bit.
    number = 0
    for at in reversed(range(len(powers) - 1)):
        ahead = shown_before(powers[at], pair)
        if not holds(ahead):
            pair = ahead
            number += 1 << at
    return number + 1


def squared(matrix):
    """The matrix of twice as many sections, divided by what its numbers have in common."""
    a, b, c, d = matrix
    entries = (a * a + b * c, a * b + b * d, c * a + d * c, c * b + d * d)
    divisor = 0
    for entry in entries:
        divisor = common_divisor(divisor, entry)
    # Without this, powers of rungs alone would have as many figures as there are sections.
    return tuple([entry // divisor for entry in entries])

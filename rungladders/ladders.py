"""Ladders: runs of one pattern in front of a load."""

from rungladders.basics import is_count, is_resistance, lowest_terms, pair_of, sign
from rungladders.errors import InvalidCount, InvalidResistance, NotAPattern
from rungladders.exact import Exact
from rungladders.limits import OPEN
from rungladders.patterns import Pattern, shown_before


class Ladder:
    """The run that begins with the load and goes on with what the pattern shows in front of it."""

    def __init__(self, pattern, load):
        if not isinstance(pattern, Pattern):
            raise NotAPattern(pattern)
        if not is_resistance(load):
            raise InvalidResistance(load)
        top, bottom = pair_of(load)
        self.section = pattern
        self.behind = lowest_terms(top, bottom)
        self.far = ladder_limit(pattern.matrix)

    def __call__(self, count):
        """What the ladder shows with this number of sections."""
        if not is_count(count):
            raise InvalidCount(count)
        pair = self.behind
        for number in range(count):
            pair = shown_before(self.section.matrix, pair)
        top, bottom = pair
        return lowest_terms(top, bottom)

    def opening(self, count):
        """What the ladder shows with 0 sections, with 1, and so on, so many of them."""
        if not is_count(count):
            raise InvalidCount(count)
        top, bottom = self.behind
        for number in range(count):
            yield (top, bottom)
            high, low = shown_before(self.section.matrix, (top, bottom))
            top, bottom = lowest_terms(high, low)

    @property
    def goes(self):
        return first_step(self.section.matrix, self.behind)

    @property
    def limit(self):
        return self.far

    @property
    def load(self):
        return self.behind

    @property
    def pattern(self):
        return self.section


def first_step(matrix, pair):
    """1, -1 or 0, as a pattern with this matrix shows more than what it stands in front of, less or the same."""
    # A pattern shows more in front of more, so a ladder goes on for ever as it begins.
    top, bottom = pair
    high, low = shown_before(matrix, pair)
    return sign(high * bottom - top * low)


def ladder_limit(matrix):
    a, b, c, d = matrix
    if c == 0:
        return OPEN
    if b == 0:
        return Exact(0, 1, 0)
    return Exact(c, d - a, b)

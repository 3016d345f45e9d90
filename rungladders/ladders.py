"""Ladders: runs of one pattern in front of a load."""

from rungladders.basics import lowest_pair, pair_order
from rungladders.checks import check_count, check_pattern, check_resistance
from rungladders.exact import Exact
from rungladders.limits import OPEN
from rungladders.patterns import shown_before


class Ladder:
    """The run that begins with the load and goes on with what the pattern shows in front of it."""

    def __init__(self, pattern, load):
        check_pattern(pattern)
        check_resistance(load)
        self.section = pattern
        self.behind = lowest_pair(load)
        self.far = ladder_limit(pattern.matrix)

    def __call__(self, count):
        """What the ladder shows with this number of sections."""
        check_count(count)
        pair = self.behind
        for number in range(count):
            pair = self.after(pair)
        return lowest_pair(pair)

    def opening(self, count):
        """What the ladder shows with 0 sections, with 1, and so on, so many of them."""
        check_count(count)
        pair = self.behind
        for number in range(count):
            yield pair
            pair = lowest_pair(self.after(pair))

    def after(self, pair):
        """What the ladder shows next, not in lowest terms."""
        return shown_before(self.section.matrix, pair)

    def last_stage(self):
        """A number, and the pattern that the run is a ladder of from this number on."""
        return (0, self.section)

    @property
    def goes(self):
        # A pattern shows more in front of more, so a ladder goes on for ever as it begins.
        return pair_order(self.after(self.behind), self.behind)

    @property
    def limit(self):
        return self.far

    @property
    def load(self):
        return self.behind

    @property
    def pattern(self):
        return self.section


def ladder_limit(matrix):
    a, b, c, d = matrix
    if c == 0:
        return OPEN
    if b == 0:
        return Exact(0, 1, 0)
    return Exact(c, d - a, b)

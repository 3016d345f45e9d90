"""Which of two runs shows less, at which numbers of sections."""

from rungladders.basics import pair_order, sign
from rungladders.errors import TooMany
from rungladders.exact import limit_beside, limits_order
from rungladders.limits import LAST
from rungladders.parabolas import difference, never_below, times


class UnlikeLimits:
    """Judges two runs with unlike limits."""

    def __init__(self, run, other):
        self.own_limit = run.limit
        self.other_limit = other.limit
        self.final = limits_order(run.limit, other.limit)

    def settles(self, number, pair, other_pair):
        """Whether the final order holds from this number on, where the runs show these two pairs."""
        # Each run stays between what it shows and its limit, so these two stretches must not reach into each other.
        beside_other = -limit_beside(self.other_limit, pair)
        beside_own = limit_beside(self.own_limit, other_pair)
        return pair_order(pair, other_pair) == self.final and -self.final not in (beside_other, beside_own)


class OneLimit:
    """Judges two runs with one and the same limit."""

    def __init__(self, run, other):
        self.common_limit = run.limit
        # Runs that rise lie below the limit, those that stay lie at it, and those that fall lie above it.
        self.final = sign(other.goes - run.goes)
        self.begin = 0
        self.gap = (0, 0, 0)
        if self.final == 0 and run.goes != 0:
            self.judge_rates(run, other)

    def judge_rates(self, run, other):
        """Judges runs on one side of the limit by which of them comes near to it faster."""
        number, pattern = run.last_stage()
        other_number, other_pattern = other.last_stage()
        self.begin = max(number, other_number)
        rates = rates_order(pattern, other_pattern)
        if rates == 0:
            pair, other_pair = shown_at(run, self.begin), shown_at(other, self.begin)
            self.final = order_at_one_rate(pattern, pair, other_pattern, other_pair, self.common_limit)
        else:
            self.final = run.goes * rates
            self.gap = difference(pattern.matrix, other_pattern.matrix)

    def settles(self, number, pair, other_pair):
        """Whether the final order holds from this number on, where the runs show these two pairs."""
        if number < self.begin or pair_order(pair, other_pair) != self.final:
            return False
        # Where the own pattern shows at least as much as the other one does (or at most, with -1), the run shows
        # next at least what the other pattern makes of it now, which is more than what that makes of the other run.
        return never_below(times(self.gap, self.final), pair, self.common_limit)


def orders_of(run, other):
    """-1, 0 or 1 for the numbers from 0 on, as the run shows less, the same or more; the last one holds for ever."""
    judge = OneLimit(run, other) if limits_order(run.limit, other.limit) == 0 else UnlikeLimits(run, other)
    orders = []
    pair, other_pair = run.load, other.load
    for number in range(LAST + 1):
        orders.append(pair_order(pair, other_pair))
        if judge.settles(number, pair, other_pair):
            return orders
        pair, other_pair = run.after(pair), other.after(other_pair)
    # Those that are not settled by now change their order once more at most, namely into the final one.
    if orders[-1] != judge.final:
        raise TooMany(LAST)
    return orders


def shown_at(run, number):
    """What the run shows at this number, not in lowest terms."""
    pair = run.load
    for section in range(number):
        pair = run.after(pair)
    return pair


def rates_order(pattern, other):
    """-1, 0 or 1, as ladders of the pattern come near to the common limit slower, at one rate, or faster."""
    return sign(scaled_rate(pattern) * other.scale - scaled_rate(other) * pattern.scale)


def scaled_rate(pattern):
    """What the rate grows with, times the scale; patterns with one limit are of one sort."""
    a, b, c, d = pattern.matrix
    if c == 0:
        return b
    if b == 0:
        return c
    return a + d


def order_at_one_rate(pattern, pair, other, other_pair, limit):
    """The final order of ladders of two patterns that come near to one limit at one rate, and show these pairs."""
    if pattern == other:
        return pair_order(pair, other_pair)
    # Only a limit that is a fraction belongs to several patterns with one rate. With n more sections the
    # distance of each ladder from it is 1 / (pull * power - rest), where only the powers, which are common, grow.
    top, bottom = pull(pattern, pair, limit.fraction)
    other_top, other_bottom = pull(other, other_pair, limit.fraction)
    return sign(other_top * bottom - top * other_bottom) or pair_order(pair, other_pair)


def pull(pattern, pair, middle):
    """1 / (x - y) + 1 / (y - z) for the pair x, the limit y and the other number z that the pattern leaves as it is."""
    a, b, c, d = pattern.matrix
    top, bottom = pair
    middle_top, middle_bottom = middle
    apart = top * middle_bottom - middle_top * bottom
    # As y + z = (a - d) / c, the second distance is (2 * c * y + d - a) / c.
    spread = 2 * c * middle_top + (d - a) * middle_bottom
    return (bottom * middle_bottom * spread + c * middle_bottom * apart, apart * spread)

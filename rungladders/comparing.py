"""Runs beside one another and beside bounds, and patterns beside one another, for all numbers and all loads."""

from rungladders.basics import lowest_terms, pair_of, pair_order
from rungladders.boxes import check_run
from rungladders.checks import check_pattern, check_resistance
from rungladders.errors import InvalidResistance, NoLimit
from rungladders.exact import limit_beside
from rungladders.limits import OPEN
from rungladders.numbers import Numbers
from rungladders.orders import orders_of
from rungladders.parabolas import difference, never_below, sign_at, times
from rungladders.searches import least_number


def less(run, other):
    """The Numbers at which the run shows less than the other one."""
    check_run(run)
    check_run(other)
    return numbers_with(orders_of(run, other), -1)


def alike(run, other):
    """The Numbers at which both runs show the same."""
    check_run(run)
    check_run(other)
    return numbers_with(orders_of(run, other), 0)


def within(run, low, high):
    """The Numbers at which the run shows a resistance from low to high."""
    check_run(run)
    check_resistance(low)
    check_resistance(high)
    near, far = pair_of(low), pair_of(high)
    if run.goes == 0:
        stays_within = pair_order(near, run.load) <= 0 and pair_order(run.load, far) <= 0
        return Numbers((0, None)) if stays_within else Numbers()
    if run.goes == -1:
        near, far = far, near
    first, behind = first_reaching(run, near), first_passing(run, far)
    if first is None or (behind is not None and behind <= first):
        return Numbers()
    return Numbers((first, None if behind is None else behind - 1))


def count_of(run, target):
    """The least number at which the run shows the target, None if there is none."""
    check_run(run)
    check_resistance(target)
    pair = pair_of(target)
    if run.goes == 0:
        return 0 if pair_order(run.load, pair) == 0 else None
    reached = first_reaching(run, pair)
    # A run that moves shows a resistance at one number only, and passes it at the next one.
    return None if reached == first_passing(run, pair) else reached


def settled(run, near):
    """The least number from which on the distance from the limit is at most so much."""
    check_run(run)
    check_resistance(near)
    distance = pair_of(near)
    if distance[0] == 0 or distance == OPEN:
        raise InvalidResistance(near)
    if run.limit == OPEN:
        raise NoLimit()
    return least_number(run, lambda pair: is_near(pair, run.limit, distance))


def never_more(pattern, other):
    """Whether the pattern shows at most what the other one shows, in front of all loads."""
    check_pattern(pattern)
    check_pattern(other)
    gap = difference(other.matrix, pattern.matrix)
    return never_below(gap, (0, 1), OPEN)


def more_load(pattern, other):
    """A load in front of which the pattern shows more than the other one, None if there is none."""
    check_pattern(pattern)
    check_pattern(other)
    gap = difference(pattern.matrix, other.matrix)
    if never_below(times(gap, -1), (0, 1), OPEN):
        return None
    for load in ((0, 1), OPEN):
        if sign_at(gap, load) > 0:
            return load
    square, line, whole = gap
    # What is above 0 only between both ends is so at the top of the parabola, or, on a line, far enough behind 0.
    if square == 0:
        return lowest_terms(line - whole, line)
    return lowest_terms(line, -2 * square)


def numbers_with(orders, wanted):
    """The Numbers with the wanted order, where the last order holds for ever."""
    found = []
    begin = None
    for number, order in enumerate(orders):
        if order == wanted and begin is None:
            begin = number
        if order != wanted and begin is not None:
            found.append((begin, number - 1))
            begin = None
    if begin is not None:
        found.append((begin, None))
    return Numbers(*found)


def first_reaching(run, bound):
    """The least number at which a run that moves has come to the bound or is behind it, None if it never is."""
    return first_with(run, bound, lambda pair: run.goes * pair_order(pair, bound) >= 0)


def first_passing(run, bound):
    """The least number at which a run that moves is behind the bound, None if it never is."""
    return first_with(run, bound, lambda pair: run.goes * pair_order(pair, bound) > 0)


def first_with(run, bound, holds):
    # A run that moves never shows its limit, so it comes to just those bounds that the limit lies behind.
    if run.goes * limit_beside(run.limit, bound) <= 0:
        return None
    return least_number(run, holds)


def is_near(pair, limit, distance):
    """Whether the pair is at most so far from the limit, which is no open end."""
    top, bottom = pair
    middle, step, whole = top * distance[1], distance[0] * bottom, bottom * distance[1]
    low = (max(0, middle - step), whole)
    high = (middle + step, whole)
    return limit_beside(limit, low) >= 0 and limit_beside(limit, high) <= 0

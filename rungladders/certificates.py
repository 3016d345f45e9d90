"""Claims with certificates that the checker accepts."""

from rungladders.basics import lowest_pair, pair_order
from rungladders.boxes import Greatest, check_run
from rungladders.checks import check_count, check_pattern, check_resistance
from rungladders.claims import stays_beside
from rungladders.comparing import more_load
from rungladders.errors import NotARun
from rungladders.exact import floor_of, limit_beside, limits_order
from rungladders.ladders import Ladder, ladder_limit
from rungladders.limits import MOST_SECTIONS, OPEN


def certify_value(run, count):
    """What the run shows at this number; for a run of a box with its order."""
    check_run(run)
    check_count(count)
    if isinstance(run, Ladder):
        return (("value", run.pattern.pieces, run.load, count, run(count)), ())
    word = "greatest" if isinstance(run, Greatest) else "least of all"
    rows = tuple([kind.pieces for kind in run.box.kinds])
    return ((word, rows, run.load, count, run(count)), run.order(count))


def certify_bound(pattern, load, bound):
    """That the ladder shows at most, or at least, so much at all numbers; None if neither is so."""
    check_pattern(pattern)
    check_resistance(load)
    check_resistance(bound)
    pair, bound_pair = lowest_pair(load), lowest_pair(bound)
    for word, sense in (("most", 1), ("least", -1)):
        if stays_beside(pattern, pair, bound_pair, sense):
            # A bound that the limit does not pass is led back by the pattern, so it is its own certificate.
            return ((word, pattern.pieces, pair, bound_pair), bound_pair)
    return None


def certify_apart(run, other):
    """That the first ladder shows less from the least possible number on; None if there is no certificate."""
    for value in (run, other):
        if not isinstance(value, Ladder):
            raise NotARun(value)
    if not can_be_parted(run.limit, other.limit):
        return None
    pair, other_pair = run.load, other.load
    for number in range(MOST_SECTIONS + 1):
        # A certificate lies from the limit of the first ladder to that of the second one, and between what both show.
        beside_limits = limit_beside(other.limit, pair) >= 0 and limit_beside(run.limit, other_pair) <= 0
        if beside_limits and pair_order(pair, other_pair) < 0:
            claim = ("apart", run.pattern.pieces, run.load, other.pattern.pieces, other.load, number)
            return (claim, number_between(pair, other_pair, run.limit, other.limit))
        pair, other_pair = run.after(pair), other.after(other_pair)
    return None


def certify_never(pattern, other):
    """That the pattern never shows more than the other one, or a load in front of which it does."""
    load = more_load(pattern, other)
    if load is None:
        return (("never", pattern.pieces, other.pieces), ())
    return (("more", pattern.pieces, other.pieces, load), ())


def certify_limit(pattern, load):
    """The limit of the ladder."""
    check_pattern(pattern)
    check_resistance(load)
    limit = ladder_limit(pattern.matrix)
    told = OPEN if limit == OPEN else limit.equation
    return (("limit", pattern.pieces, lowest_pair(load), told), ())


def can_be_parted(limit, other_limit):
    """Whether there is a fraction, or an open end, from the limit to the other one."""
    order = limits_order(limit, other_limit)
    return order < 0 or (order == 0 and exact_pair(limit) is not None)


def exact_pair(limit):
    """The limit as a pair, None if it is no fraction and no open end."""
    return OPEN if limit == OPEN else limit.fraction


def number_between(pair, other_pair, limit, other_limit):
    """A number from the pair and the limit to the other pair and the other limit."""
    if limit_beside(limit, pair) <= 0:
        return lowest_pair(pair)
    if limit_beside(other_limit, other_pair) >= 0:
        return lowest_pair(other_pair)
    for middle in (exact_pair(limit), exact_pair(other_limit)):
        if middle is not None:
            return middle
    times = 1
    top = floor_of(limit.parts, times) + 1
    while limit_beside(other_limit, (top, times)) < 0:
        times = times * 2
        top = floor_of(limit.parts, times) + 1
    return lowest_pair((top, times))

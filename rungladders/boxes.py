"""Boxes of patterns, and the greatest and the least that their kinds show."""

from rungladders.basics import lowest_pair, pair_order
from rungladders.checks import check_count, check_resistance
from rungladders.errors import InvalidKinds, NotARun
from rungladders.exact import limits_order
from rungladders.ladders import Ladder, ladder_limit
from rungladders.limits import MOST_KINDS
from rungladders.parabolas import difference, never_below, times
from rungladders.patterns import Pattern, shown_before


class Box:
    """One to four patterns, the kinds, each of which may be taken any number of times."""

    def __init__(self, *kinds):
        if len(kinds) < 1 or len(kinds) > MOST_KINDS:
            raise InvalidKinds(None)
        for at, kind in enumerate(kinds):
            if not isinstance(kind, Pattern):
                raise InvalidKinds(at)
        self.patterns = kinds

    @property
    def kinds(self):
        return self.patterns

    def __len__(self):
        return len(self.patterns)

    def greatest(self, load):
        """The run of the greatest resistances that the kinds show in front of the load."""
        check_resistance(load)
        return Greatest(self, load)

    def least(self, load):
        """The run of the least resistances that the kinds show in front of the load."""
        check_resistance(load)
        return Least(self, load)


class BoxRun:
    """What both runs of a box have in common; `sense` is 1 for the greatest run and -1 for the least one."""

    def __init__(self, box, load, sense):
        self.source = box
        self.behind = lowest_pair(load)
        self.sense = sense
        self.matrices = tuple([kind.matrix for kind in box.patterns])
        self.far = best_limit([ladder_limit(matrix) for matrix in self.matrices], sense)

    def taken(self, pair):
        """The least index of the kinds that are taken in front of what the run shows."""
        best = 0
        for at in range(1, len(self.matrices)):
            shown = shown_before(self.matrices[at], pair)
            if self.sense * pair_order(shown, shown_before(self.matrices[best], pair)) > 0:
                best = at
        return best

    def after(self, pair):
        """What the run shows next, not in lowest terms."""
        return shown_before(self.matrices[self.taken(pair)], pair)

    def pick(self, count):
        """The kinds that are taken, the front one first, and what they show, not in lowest terms."""
        check_count(count)
        picked = []
        pair = self.behind
        for number in range(count):
            index = self.taken(pair)
            picked.append(index)
            pair = shown_before(self.matrices[index], pair)
        return (tuple(picked[::-1]), pair)

    def lasting(self):
        """The least number behind which one kind is taken for ever, and the least index of such a kind."""
        pair = self.behind
        ahead = self.after(pair)
        if pair_order(pair, ahead) == 0:
            return (0, self.taken(pair))
        number = 0
        since = [0 for matrix in self.matrices]
        index = self.ruling(pair)
        while index is None:
            number += 1
            for at, matrix in enumerate(self.matrices):
                if pair_order(shown_before(matrix, pair), ahead) != 0:
                    since[at] = number
            pair = ahead
            ahead = self.after(pair)
            index = self.ruling(pair)
        return (since[index], index)

    def ruling(self, pair):
        """The least index of the kinds that are best all the way from here to the limit, None if there is none."""
        for at, matrix in enumerate(self.matrices):
            gaps = [times(difference(matrix, rival), self.sense) for rival in self.matrices]
            if all([never_below(gap, pair, self.far) for gap in gaps]):
                return at
        return None

    def last_stage(self):
        """A number, and the pattern that the run is a ladder of from this number on."""
        number, index = self.lasting()
        return (number, self.source.patterns[index])


class Greatest(BoxRun):
    """The run of the greatest resistances that any kinds of a box show."""

    def __init__(self, box, load):
        BoxRun.__init__(self, box, load, 1)

    def __call__(self, count):
        """The greatest resistance that this number of kinds shows."""
        return lowest_pair(self.pick(count)[1])

    def opening(self, count):
        """The greatest resistances that 0 kinds show, 1 kind, and so on, so many of them."""
        yield from first_pairs(self, count)

    @property
    def goes(self):
        return pair_order(self.after(self.behind), self.behind)

    @property
    def limit(self):
        return self.far

    @property
    def load(self):
        return self.behind

    @property
    def box(self):
        return self.source

    def order(self, count):
        """The indices of the kinds that are taken, the front one first."""
        return self.pick(count)[0]

    def forever(self):
        """The least number behind which one kind is taken for ever, and the least index of such a kind."""
        return self.lasting()


class Least(BoxRun):
    """The run of the least resistances that any kinds of a box show."""

    def __init__(self, box, load):
        BoxRun.__init__(self, box, load, -1)

    def __call__(self, count):
        """The least resistance that this number of kinds shows."""
        return lowest_pair(self.pick(count)[1])

    def opening(self, count):
        """The least resistances that 0 kinds show, 1 kind, and so on, so many of them."""
        yield from first_pairs(self, count)

    @property
    def goes(self):
        return pair_order(self.after(self.behind), self.behind)

    @property
    def limit(self):
        return self.far

    @property
    def load(self):
        return self.behind

    @property
    def box(self):
        return self.source

    def order(self, count):
        """The indices of the kinds that are taken, the front one first."""
        return self.pick(count)[0]

    def forever(self):
        """The least number behind which one kind is taken for ever, and the least index of such a kind."""
        return self.lasting()


def best_limit(limits, sense):
    best = limits[0]
    for limit in limits:
        if sense * limits_order(limit, best) > 0:
            best = limit
    return best


def first_pairs(run, count):
    """What a run of a box shows with 0 kinds, with 1, and so on, so many of them."""
    check_count(count)
    pair = run.behind
    for number in range(count):
        yield pair
        pair = lowest_pair(run.after(pair))


def check_run(value):
    if not isinstance(value, (Ladder, Greatest, Least)):
        raise NotARun(value)

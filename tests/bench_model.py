"""What the document says of benches, with copies of everything, apart from the package."""

from rungladders.benches import Bench
from rungladders.comparing import never_more
from rungladders.errors import (
    Broken, InUse, InvalidClaim, InvalidDeeds, InvalidIndex, InvalidName, NotAPattern, NothingToUndo, UnknownName,
)
from rungladders.ladders import Ladder
from rungladders.limits import OPEN
from rungladders.patterns import Pattern
from model import order_of
from samples import NO_RESISTANCES


def is_resistance(value):
    return not any(value is wrong for wrong in NO_RESISTANCES) and (type(value) is int or type(value) is tuple)


def claim_holds(claim, patterns):
    word, name = claim[:2]
    if word in ("never", "same"):
        pattern, other = patterns[name], patterns[claim[2]]
        return never_more(pattern, other) if word == "never" else pattern == other
    load, bound = [(value, 1) if isinstance(value, int) else value for value in claim[2:]]
    run = Ladder(patterns[name], load)
    sense = 1 if word == "most" else -1
    if run.limit == OPEN:
        beside_limit = order_of(OPEN, bound)
    else:
        beside_limit = run.limit.compare(bound)
    return sense * beside_limit <= 0 and all(sense * order_of(pair, bound) <= 0 for pair in run.opening(40))


class BenchModel:
    def __init__(self):
        self.patterns, self.claims, self.past = {}, [], []

    def keep(self):
        self.past.append((dict(self.patterns), list(self.claims)))

    def do(self, deed):
        """Does the deed, or returns the error that it raises, as its class and what it tells."""
        word, *rest = deed
        return getattr(self, word)(*rest)

    def set(self, name, pattern):
        if not (isinstance(name, str) and 1 <= len(name) <= 8 and all("a" <= letter <= "z" for letter in name)):
            return InvalidName, name
        if not isinstance(pattern, Pattern):
            return NotAPattern, pattern
        changed = {**self.patterns, name: pattern}
        for index, claim in enumerate(self.claims):
            if not claim_holds(claim, changed):
                return Broken, index
        self.keep()
        self.patterns = changed

    def drop(self, name):
        if not isinstance(name, str) or name not in self.patterns:
            return UnknownName, name
        for index, claim in enumerate(self.claims):
            if name in claim[1:3]:
                return InUse, index
        self.keep()
        del self.patterns[name]

    def claim(self, claim):
        if not isinstance(claim, tuple) or (claim[:1], len(claim)) not in [(("never",), 3), (("same",), 3), (("most",), 4), (("least",), 4)]:
            return InvalidClaim, claim
        if len(claim) == 4 and not (is_resistance(claim[2]) and is_resistance(claim[3])):
            return InvalidClaim, claim
        for name in claim[1:3] if len(claim) == 3 else claim[1:2]:
            if not isinstance(name, str) or name not in self.patterns:
                return UnknownName, name
        if not claim_holds(claim, self.patterns):
            return Broken, len(self.claims)
        self.keep()
        self.claims.append(claim)

    def lift(self, index):
        if type(index) is not int or not 0 <= index < len(self.claims):
            return InvalidIndex, index
        self.keep()
        del self.claims[index]

    def undo(self):
        if not self.past:
            return NothingToUndo, None
        self.patterns, self.claims = self.past.pop()


def do_deed(bench, deed):
    """Does the deed with the bench itself, by position."""
    word, *rest = deed
    if word == "set":
        bench[rest[0]] = rest[1]
        return None
    return getattr(bench, word)(*rest)


def state_of(bench):
    return [bench.names, [id(bench[name]) for name in bench.names], [id(claim) for claim in bench.claims], bench.changes, len(bench)]


def full_state_of(bench):
    """All that the bench tells, with all that can be taken back, seen on the way back within a trial."""
    with bench.trial():
        states = [state_of(bench)]
        while bench.changes:
            bench.undo()
            states.append(state_of(bench))
    return states


def filled_bench():
    bench = Bench()
    bench["a"] = Pattern.read("rail 1, rung 1")
    bench["b"] = Pattern.read("rail 1, rung 2")
    bench["line"] = Pattern.read("rail 2")
    bench.claim(("never", "a", "b"))
    bench.claim(("most", "a", 0, 2))
    return bench

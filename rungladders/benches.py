"""Benches: patterns under names, and claims about them that always hold."""

from rungladders.basics import is_integer_within, is_name
from rungladders.checks import check_pattern
from rungladders.claims import holds, is_claim, names_of
from rungladders.errors import (
    Broken, InUse, InvalidClaim, InvalidDeeds, InvalidIndex, InvalidName, NothingToUndo, UnknownName,
)

DEED_LENGTHS = {"set": 3, "drop": 2, "claim": 2, "lift": 2}


class Moment:
    """What a bench holds at one time; it never changes, so that every earlier one can be gone back to."""

    def __init__(self, stored, stated, before):
        self.stored = stored
        self.stated = stated
        self.before = before
        self.depth = 0 if before is None else before.depth + 1


class Bench:
    """Patterns under names, and claims about them."""

    def __init__(self):
        self.present = Moment({}, (), None)

    def __setitem__(self, at, worth):
        if not is_name(at):
            raise InvalidName(at)
        check_pattern(worth)
        stored = dict(self.present.stored)
        stored[at] = worth
        for index, claim in enumerate(self.present.stated):
            if at in names_of(claim) and not holds(claim, stored):
                raise Broken(index)
        self.change(stored, self.present.stated)

    def __getitem__(self, at):
        if at not in self:
            raise UnknownName(at)
        return self.present.stored[at]

    def __contains__(self, x):
        # The kind comes first: what is no string may not be looked up at all.
        return isinstance(x, str) and x in self.present.stored

    def __len__(self):
        return len(self.present.stored)

    def __iter__(self):
        raise TypeError("a bench is asked for its names")

    @property
    def names(self):
        return tuple(sorted(list(self.present.stored)))

    @property
    def claims(self):
        return self.present.stated

    @property
    def changes(self):
        return self.present.depth

    def drop(self, name):
        """Takes a name away with its pattern."""
        if name not in self:
            raise UnknownName(name)
        for index, claim in enumerate(self.present.stated):
            if name in names_of(claim):
                raise InUse(index)
        stored = dict(self.present.stored)
        del stored[name]
        self.change(stored, self.present.stated)

    def claim(self, claim):
        """Makes a claim, which then always holds."""
        if not is_claim(claim):
            raise InvalidClaim(claim)
        for name in names_of(claim):
            if name not in self:
                raise UnknownName(name)
        stated = self.present.stated
        if not holds(claim, self.present.stored):
            raise Broken(len(stated))
        self.change(self.present.stored, stated + (claim,))

    def lift(self, index):
        """Takes a claim away."""
        stated = self.present.stated
        if not is_integer_within(index, 0, len(stated) - 1):
            raise InvalidIndex(index)
        self.change(self.present.stored, stated[:index] + stated[index + 1:])

    def change(self, stored, stated):
        self.present = Moment(stored, stated, self.present)

    def undo(self):
        """Takes back the last change that was not taken back."""
        if self.present.before is None:
            raise NothingToUndo()
        self.present = self.present.before

    def do_all(self, *deeds, watch=None):
        """Does all deeds, or none if an error comes out, and tells their number."""
        for index, deed in enumerate(deeds):
            if not is_deed(deed):
                raise InvalidDeeds(index)
        kept = self.present
        try:
            for deed in deeds:
                self.do_deed(deed)
                if watch is not None:
                    watch(self)
            kept = self.present
        finally:
            self.present = kept
        return len(deeds)

    def do_deed(self, deed):
        word = deed[0]
        if word == "set":
            self[deed[1]] = deed[2]
        elif word == "drop":
            self.drop(deed[1])
        elif word == "claim":
            self.claim(deed[1])
        else:
            self.lift(deed[1])

    def trial(self):
        """For a `with` statement, behind which the bench is again as it was."""
        return Trial(self)

    def tried(self, work):
        """What the function returns for the bench, which is then again as it was."""
        with self.trial():
            return work(self)


class Trial:
    """Takes a bench back to where it was, each time that a `with` statement ends."""

    def __init__(self, bench):
        self.table = bench
        self.innermost = None

    def __enter__(self):
        self.innermost = Entry(self.table.present, self.innermost)
        return self.table

    def __exit__(self, kind, value, trace):
        self.table.present = self.innermost.moment
        self.innermost = self.innermost.around


class Entry:
    """The moment at which a trial was entered, and the entry that this one lies within."""

    def __init__(self, moment, around):
        self.moment = moment
        self.around = around


def is_deed(value):
    if not isinstance(value, tuple) or len(value) < 1 or not isinstance(value[0], str):
        return False
    return DEED_LENGTHS.get(value[0]) == len(value)

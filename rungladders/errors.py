"""The errors of the package, each with what it tells as its attribute."""


class WrongValue(ValueError):
    """A value that an argument does not accept."""

    # Without this, ValueError would accept any arguments.
    def __init__(self):
        pass


class NotAPattern(WrongValue):
    """Not a Pattern."""

    def __init__(self, given):
        WrongValue.__init__(self)
        self.given = given


class NotARun(WrongValue):
    """Not a run, or not one of the runs that are accepted."""

    def __init__(self, given):
        WrongValue.__init__(self)
        self.given = given


class InvalidResistance(WrongValue):
    """Not a resistance, or not one that is accepted."""

    def __init__(self, given):
        WrongValue.__init__(self)
        self.given = given


class InvalidCount(WrongValue):
    """Not a number of things that can be asked for."""

    def __init__(self, given):
        WrongValue.__init__(self)
        self.given = given


class InvalidNumber(WrongValue):
    """Not an integer within the bounds."""

    def __init__(self, given):
        WrongValue.__init__(self)
        self.given = given


class InvalidText(WrongValue):
    """Not a text of one of the accepted forms."""

    def __init__(self, given):
        WrongValue.__init__(self)
        self.given = given


class InvalidName(WrongValue):
    """Not a name."""

    def __init__(self, given):
        WrongValue.__init__(self)
        self.given = given


class InvalidClaim(WrongValue):
    """Not a claim of one of the accepted forms."""

    def __init__(self, given):
        WrongValue.__init__(self)
        self.given = given


class InvalidIndex(WrongValue):
    """Not an index with which there is a claim."""

    def __init__(self, given):
        WrongValue.__init__(self)
        self.given = given


class InvalidPieces(WrongValue):
    """Not the pieces of a pattern."""

    def __init__(self, index):
        WrongValue.__init__(self)
        self.index = index


class InvalidKinds(WrongValue):
    """Not the kinds of a box."""

    def __init__(self, index):
        WrongValue.__init__(self)
        self.index = index


class InvalidStretches(WrongValue):
    """Not the stretches of a set of numbers."""

    def __init__(self, index):
        WrongValue.__init__(self)
        self.index = index


class InvalidDeeds(WrongValue):
    """Not deeds of the accepted forms."""

    def __init__(self, index):
        WrongValue.__init__(self)
        self.index = index


class WrongName(LookupError):
    """A name that cannot be used so."""

    # Without this, LookupError would accept any arguments.
    def __init__(self):
        pass


class UnknownName(WrongName):
    """Not a name of the bench."""

    def __init__(self, given):
        WrongName.__init__(self)
        self.given = given


class InUse(WrongName):
    """A name that a claim still names."""

    def __init__(self, index):
        WrongName.__init__(self)
        self.index = index


class NoAnswer(ArithmeticError):
    """A valid question to which nothing can be answered."""

    # Without this, ArithmeticError would accept any arguments.
    def __init__(self):
        pass


class TooMany(NoAnswer):
    """More than can be dealt with."""

    def __init__(self, most):
        NoAnswer.__init__(self)
        self.most = most


class Broken(NoAnswer):
    """A claim that would fail."""

    def __init__(self, index):
        NoAnswer.__init__(self)
        self.index = index


class NoLimit(NoAnswer):
    """The limit is an open end."""


class NothingToUndo(NoAnswer):
    """No change is left that could be taken back."""

"""Values that several test files pass."""

from fractions import Fraction


class EqualsAll:
    """Says that it equals everything, so that a check by == alone would be deceived."""

    def __eq__(self, other):
        return True

    def __ne__(self, other):
        return False


class EqualsNothing:
    """Cannot be compared at all."""

    def __eq__(self, other):
        raise RuntimeError("compared")


def deep_tuple(depth):
    nested = ()
    for _ in range(depth - 1):
        nested = (nested,)
    return nested


NO_INTEGERS = [
    True, False, None, "", "1", "3/2", b"1", (), (1,), (1, 1), (1, 0), [], [1], {}, {1: 1}, {1}, frozenset([1]),
    range(3), 1j, Fraction(1), Fraction(3, 2), int, len, object(), ValueError("1"), NotImplemented, ...,
    EqualsAll(), EqualsNothing(), deep_tuple(20),
]

NO_RESISTANCES = [
    True, False, None, "", "1", "3/2", "open", b"1", (), (1,), (1, 1, 1), (1, 0, 0), [], [1], [1, 1], [1, 0], {},
    {1: 1}, {1}, range(2), 1j, Fraction(1), Fraction(3, 2), int, len, object(), EqualsAll(), EqualsNothing(),
    -1, -10 ** 12, 10 ** 12 + 1, 10 ** 40,
    (-1, 1), (1, -1), (-1, -1), (-1, 0), (0, 0), (2, 0), (10 ** 12, 0), (0, -1), (-3, 2),
    (10 ** 12 + 1, 1), (1, 10 ** 12 + 1), (0, 10 ** 12 + 1), (10 ** 12 + 1, 10 ** 12 + 1), (2 * 10 ** 12, 2 * 10 ** 12),
    (True, 1), (1, True), (False, 1), (True, 0), (1, False), (True, False), (False, True),
    ("1", 1), (1, "1"), (None, 1), (1, None), (1, (1,)), ((1, 1), 1), ((1, 1),), ((1, 0),), (EqualsAll(), EqualsAll()),
    (EqualsNothing(), 0), deep_tuple(20),
]

NO_COUNTS = [-1, -100, 101, 1000, 10 ** 40, *NO_INTEGERS]

NO_PIECES = [
    True, False, None, 0, 1, -1, "", "rail", "rung", "rail 1", b"rail", (), ("rail",), ("rail", 1, 1), ("rail", 1, None),
    (1, "rail"), (("rail", 1),), (("rail", 1), ("rung", 1)), ("rail", ("rail", 1)), ["rail", 1], ["rung", 12], ("rail", [1]),
    {"rail": 1}, {"rail", 1}, {"rail": 1, "rung": 1},
    ("rail", 0), ("rung", 0), ("rail", 13), ("rung", 13), ("rail", -1), ("rung", -12), ("rail", 10 ** 40), ("rung", 10 ** 40),
    ("rail", True), ("rung", True), ("rail", False), ("rail", None), ("rail", "1"), ("rail", (1, 1)), ("rail", Fraction(1)),
    ("Rail", 1), ("RUNG", 1), ("rails", 1), ("rung ", 1), (" rail", 1), ("", 1), ("r", 1), ("railrung", 1), ("bolt", 1),
    (b"rail", 1), (None, 1), (0, 1), (True, 1), (("rail",), 1), (["rail"], 1), (EqualsAll(), 1), (EqualsNothing(), 1),
    ("rail", EqualsAll()), ("rung", EqualsNothing()), EqualsAll(), EqualsNothing(), range(2), object(), int, deep_tuple(20),
]


def others_than(kind):
    """Values of other classes than this one, except those that deceive or refuse a comparison."""
    values = [0, 1, 2, 1.5, (1, 1), "none", "rail 1", *NO_INTEGERS, *NO_RESISTANCES, *NO_PIECES, kind]
    return [value for value in values if not holds_odd_value(value)]


def holds_odd_value(value):
    if isinstance(value, tuple):
        return any(holds_odd_value(part) for part in value)
    return isinstance(value, (EqualsAll, EqualsNothing))

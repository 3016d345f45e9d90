"""Values that several test files pass."""

from fractions import Fraction


class EqualsAll:
    """Says that it equals everything, so that a check by == alone would be deceived."""

    def __eq__(self, other):
        return True

    def __ne__(self, other):
        return False


class EqualsNothing:
    """Cannot be compared at all."""

    def __eq__(self, other):
        raise RuntimeError("compared")


def deep_tuple(depth):
    nested = ()
    for _ in range(depth - 1):
        nested = (nested,)
    return nested


NO_INTEGERS = [
    True, False, None, "", "1", "3/2", b"1", (), (1,), (1, 1), (1, 0), [], [1], {}, {1: 1}, {1}, frozenset([1]),
    range(3), 1j, Fraction(1), Fraction(3, 2), int, len, object(), ValueError("1"), NotImplemented, ...,
    EqualsAll(), EqualsNothing(), deep_tuple(20),
]

NO_RESISTANCES = [
    True, False, None, "", "1", "3/2", "open", b"1", (), (1,), (1, 1, 1), (1, 0, 0), [], [1], [1, 1], [1, 0], {},
    {1: 1}, {1}, range(2), 1j, Fraction(1), Fraction(3, 2), int, len, object(), EqualsAll(), EqualsNothing(),
    -1, -10 ** 12, 10 ** 12 + 1, 10 ** 40,
    (-1, 1), (1, -1), (-1, -1), (-1, 0), (0, 0), (2, 0), (10 ** 12, 0), (0, -1), (-3, 2),
    (10 ** 12 + 1, 1), (1, 10 ** 12 + 1), (0, 10 ** 12 + 1), (10 ** 12 + 1, 10 ** 12 + 1), (2 * 10 ** 12, 2 * 10 ** 12),
    (True, 1), (1, True), (False, 1), (True, 0), (1, False), (True, False), (False, True),
    ("1", 1), (1, "1"), (None, 1), (1, None), (1, (1,)), ((1, 1), 1), ((1, 1),), ((1, 0),), (EqualsAll(), EqualsAll()),
    (EqualsNothing(), 0), deep_tuple(20),
]

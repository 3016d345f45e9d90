import unittest
from fractions import Fraction

from model import ALL_PIECES, mixed_rows, row_shows, text_of
from rungladders.errors import InvalidPieces, TooMany
from rungladders.patterns import Pattern
from samples import NO_PIECES

TWO_PIECES = [(first, second) for first in ALL_PIECES for second in ALL_PIECES]
SAMPLE_ROWS = [*[(piece,) for piece in ALL_PIECES], *TWO_PIECES, *mixed_rows(3, 150), *mixed_rows(4, 150)]


class Checks(unittest.TestCase):
    def check(self, pattern, row):
        self.assertIs(type(pattern), Pattern)
        self.assertEqual(pattern.pieces, row)
        self.assertIs(type(pattern.pieces), tuple)
        self.assertEqual(len(pattern), len(row))
        self.assertIs(bool(pattern), True)
        self.assertEqual(str(pattern), text_of(row))
        self.assertEqual(repr(pattern), f"Pattern({text_of(row)})")
        self.check_numbers(pattern, row)

    def check_numbers(self, pattern, row):
        self.assertIs(type(pattern.numbers), tuple)
        for pair in pattern.numbers:
            self.assertIs(type(pair), tuple)
            self.assertEqual([type(part) for part in pair], [int, int])
            lowest = Fraction(*pair)
            self.assertEqual(pair, (lowest.numerator, lowest.denominator))
        a, b, c, d = [Fraction(*pair) for pair in pattern.numbers]
        self.assertEqual(a * d - b * c, 1)
        # Three fractions settle a row that shows (a * x + b) / (c * x + d), and an open end settles the signs.
        for number in (Fraction(0), Fraction(1), Fraction(5, 7)):
            self.assertEqual((a * number + b) / (c * number + d), row_shows(row, number), row)
        self.assertEqual((1, 0) if c == 0 else a / c, row_shows(row, (1, 0)))


class MadeTest(Checks):
    def test_one_to_four_pieces(self):
        for row in SAMPLE_ROWS:
            self.check(Pattern(*row), row)

    def test_written_out(self):
        for row, numbers, text in [
            ((("rail", 3),), ((1, 1), (3, 1), (0, 1), (1, 1)), "rail 3"),
            ((("rung", 4),), ((1, 1), (0, 1), (1, 4), (1, 1)), "rung 4"),
            ((("rail", 1), ("rung", 1)), ((2, 1), (1, 1), (1, 1), (1, 1)), "rail 1, rung 1"),
            ((("rung", 1), ("rail", 1)), ((1, 1), (1, 1), (1, 1), (2, 1)), "rung 1, rail 1"),
            ((("rail", 1), ("rung", 12)), ((13, 12), (1, 1), (1, 12), (1, 1)), "rail 1, rung 12"),
            ((("rung", 2), ("rung", 2)), ((1, 1), (0, 1), (1, 1), (1, 1)), "rung 2, rung 2"),
            ((("rail", 12), ("rail", 12), ("rail", 12), ("rail", 12)), ((1, 1), (48, 1), (0, 1), (1, 1)),
             "rail 12, rail 12, rail 12, rail 12"),
            ((("rail", 1), ("rung", 2), ("rail", 3), ("rung", 6)), ((29, 12), (11, 2), (11, 12), (5, 2)),
             "rail 1, rung 2, rail 3, rung 6"),
        ]:
            pattern = Pattern(*row)
            with self.subTest(text=text):
                self.assertEqual(pattern.pieces, row)
                self.assertEqual(pattern.numbers, numbers)
                self.assertEqual(str(pattern), text)
                self.assertEqual(repr(pattern), f"Pattern({text})")

    def test_properties_are_not_assigned(self):
        for name in ("pieces", "numbers"):
            with self.assertRaises(AttributeError):
                setattr(Pattern(("rail", 1)), name, ())

    def test_pieces_are_passed_by_position_alone(self):
        with self.assertRaises(TypeError):
            Pattern(pieces=(("rail", 1),))


class JoinedTest(Checks):
    ROWS = [row for length in (1, 2, 3, 4) for row in mixed_rows(length, 8)]

    def test_two_patterns(self):
        for row in self.ROWS:
            for other_row in self.ROWS:
                a, b = Pattern(*row), Pattern(*other_row)
                self.check(a + b, row + other_row)
                self.check(a, row)
                self.check(b, other_row)

    def test_pattern_with_itself(self):
        for row in self.ROWS:
            pattern = Pattern(*row)
            self.check(pattern + pattern, row + row)

    def test_several_ones(self):
        for row in mixed_rows(8, 60):
            one_by_one = Pattern(row[0])
            for piece in row[1:]:
                one_by_one = one_by_one + Pattern(piece)
            self.check(one_by_one, row)
            self.check(Pattern(*row[:3]) + (Pattern(*row[3:4]) + Pattern(*row[4:])), row)

    def test_more_than_eight(self):
        for length in range(1, 9):
            for other_length in range(1, 9):
                row, other_row = mixed_rows(length, 1)[0], mixed_rows(other_length, 2)[1]
                a, b = self.long_pattern(row), self.long_pattern(other_row)
                if length + other_length <= 8:
                    self.check(a + b, row + other_row)
                    continue
                with self.assertRaises(TooMany) as context:
                    a + b
                self.assertEqual(context.exception.most, 8)
                self.check(a, row)
                self.check(b, other_row)

    def long_pattern(self, row):
        return Pattern(*row[:4]) + Pattern(*row[4:]) if len(row) > 4 else Pattern(*row)

    def test_assigned_back(self):
        pattern = kept = Pattern(("rail", 1))
        pattern += Pattern(("rung", 2))
        self.check(pattern, (("rail", 1), ("rung", 2)))
        self.check(kept, (("rail", 1),))


class TurnedTest(Checks):
    def test_one_to_eight_pieces(self):
        for length in range(1, 9):
            for row in mixed_rows(length, 40):
                pattern = Pattern(*row[:4])
                if length > 4:
                    pattern = pattern + Pattern(*row[4:])
                self.check(pattern.turned(), row[::-1])
                self.check(pattern.turned().turned(), row)
                self.check(pattern, row)


class RefusedTest(unittest.TestCase):
    AHEAD = [(), (("rail", 1),), (("rung", 12), ("rail", 12)), (("rung", 1), ("rung", 1), ("rail", 7))]

    def assert_refused(self, row, index):
        with self.assertRaises(InvalidPieces) as context:
            Pattern(*row)
        self.assertEqual(context.exception.index, index, row)
        self.assertIs(type(context.exception.index), type(index))

    def test_first_thing_that_is_no_piece(self):
        for wrong in [*NO_PIECES, Pattern(("rail", 1)), Pattern]:
            for ahead in self.AHEAD:
                for behind in ((), (("rail", 2),), (None,), (("rail", 13), ("rung", 3)), (wrong,)):
                    if len(ahead) + 1 + len(behind) <= 4:
                        self.assert_refused((*ahead, wrong, *behind), len(ahead))

    def test_no_piece(self):
        self.assert_refused((), None)

    def test_more_than_four(self):
        for length in (5, 6, 8, 9, 100):
            self.assert_refused([("rail", 1)] * length, None)
            for wrong in NO_PIECES:
                self.assert_refused([wrong] * length, None)
                self.assert_refused([wrong, *[("rung", 1)] * (length - 1)], None)
                self.assert_refused([*[("rung", 1)] * (length - 1), wrong], None)

    def test_bounds_of_ohms(self):
        for word in ("rail", "rung"):
            for ohms in (1, 12):
                Pattern((word, ohms))
            for ohms in (0, 13):
                self.assert_refused([(word, ohms)], 0)


if __name__ == "__main__":
    unittest.main()

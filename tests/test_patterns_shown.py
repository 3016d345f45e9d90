import unittest

from model import ALL_PIECES, mixed_rows, number_of, pair_from, row_shows
from rungladders.errors import InvalidResistance
from rungladders.patterns import Pattern
from samples import NO_RESISTANCES, EqualsAll, EqualsNothing, others_than

MOST = 10 ** 12
LOADS = [
    0, 1, 2, 7, 12, 144, MOST - 1, MOST, (0, 1), (0, 7), (0, MOST), (1, 1), (2, 1), (2, 2), (6, 4), (3, 2), (1, 12), (144, 12),
    (MOST, 1), (1, MOST), (MOST, MOST), (MOST, MOST - 1), (MOST - 1, MOST), (123456789, 987654321), (10 ** 11, 3 * 10 ** 10), (1, 0),
]


def pattern_of(row):
    return Pattern(*row) if len(row) <= 4 else Pattern(*row[:4]) + Pattern(*row[4:])


class ShownTest(unittest.TestCase):
    def check(self, row, load):
        pattern = pattern_of(row)
        told = pattern(load)
        self.assertEqual(told, pair_from(row_shows(row, number_of(load))), (row, load))
        self.assertIs(type(told), tuple)
        self.assertEqual([type(part) for part in told], [int, int])
        self.assertEqual(pattern(load=load), told)

    def test_one_piece(self):
        for piece in ALL_PIECES:
            for load in LOADS:
                self.check((piece,), load)

    def test_one_to_eight_pieces(self):
        for length in range(2, 9):
            for row in mixed_rows(length, 60):
                for load in LOADS:
                    self.check(row, load)

    def test_rails_alone_and_rungs_alone(self):
        for word in ("rail", "rung"):
            for length in range(1, 9):
                row = tuple((word, ohms + 1) for ohms in range(length))
                for load in LOADS:
                    self.check(row, load)

    def test_one_after_another(self):
        for row in mixed_rows(4, 60):
            for load in (0, 1, 12, (1, 12), (7, 5), (1, 0)):
                shown = load
                for piece in row[::-1]:
                    shown = Pattern(piece)(shown)
                self.assertEqual(Pattern(*row)(load), shown)
                self.assertEqual((Pattern(*row[:2]) + Pattern(*row[2:]))(load), shown)

    def test_written_out(self):
        for text, load, shown in [
            ("rail 3", 0, (3, 1)), ("rail 3", (1, 2), (7, 2)), ("rail 3", (1, 0), (1, 0)), ("rail 1, rail 12", (1, 0), (1, 0)),
            ("rung 3", 0, (0, 1)), ("rung 3", 3, (3, 2)), ("rung 3", (6, 1), (2, 1)), ("rung 3", (1, 0), (3, 1)),
            ("rung 3, rung 6", (1, 0), (2, 1)), ("rung 12", MOST, (3 * MOST, 250000000003)),
            ("rail 1, rung 1", (1, 0), (2, 1)), ("rail 1, rung 1", 0, (1, 1)), ("rung 1, rail 1", 0, (1, 2)),
            ("rung 1, rail 1", (1, 0), (1, 1)), ("rail 1, rung 2", 2, (2, 1)), ("rail 1, rung 2", (4, 2), (2, 1)),
            ("rail 12", MOST, (MOST + 12, 1)), ("rail 1", (1, MOST), (MOST + 1, MOST)),
        ]:
            self.assertEqual(Pattern.read(text)(load), shown, (text, load))

    def test_refused(self):
        for text in ("rail 1", "rung 1", "rail 1, rung 1", "rail 1, rung 2, rail 3, rung 4, rail 5"):
            pattern = Pattern.read(text)
            for value in [*NO_RESISTANCES, pattern, Pattern]:
                for shown in (lambda: pattern(value), lambda: pattern(load=value)):
                    with self.assertRaises(InvalidResistance) as context:
                        shown()
                    self.assertIs(context.exception.given, value)

    def test_one_load_alone(self):
        for passed in ((), (1, 1)):
            with self.assertRaises(TypeError):
                Pattern(("rail", 1))(*passed)


def seen(row):
    """What a row shows in front of four loads; no two rows that ever show anything else agree in all of these."""
    return tuple(pair_from(row_shows(row, number_of(load))) for load in (0, 1, 2, (1, 0)))


class EqualTest(unittest.TestCase):
    def assert_equal(self, a, b, expected):
        for first, second in ((a, b), (b, a)):
            self.assertIs(first == second, expected, (first, second))
            self.assertIs(first != second, not expected, (first, second))
        if expected:
            self.assertEqual(a.numbers, b.numbers)
        else:
            self.assertNotEqual(a.numbers, b.numbers)

    def test_same_pieces(self):
        for length in range(1, 9):
            for row in mixed_rows(length, 20):
                self.assert_equal(pattern_of(row), pattern_of(row), True)

    def test_all_small_rows(self):
        pieces = [(word, ohms) for word in ("rail", "rung") for ohms in (1, 2, 3, 4)]
        rows = [(), *[(piece,) for piece in pieces]]
        rows = [(*row, *more) for row in rows for more in rows if row or more]
        shown = {row: seen(row) for row in rows}
        patterns = {row: Pattern(*row) for row in shown}
        for row in shown:
            for other_row in shown:
                self.assertIs(patterns[row] == patterns[other_row], shown[row] == shown[other_row], (row, other_row))

    def test_all_rows_of_three_alternating_pieces(self):
        groups = {}
        for first in range(1, 13):
            for second in range(1, 13):
                for third in range(1, 13):
                    for row in ((("rail", first), ("rung", second), ("rail", third)),
                                (("rung", first), ("rail", second), ("rung", third))):
                        groups.setdefault(seen(row), []).append(row)
        both = [rows for rows in groups.values() if len(rows) > 1]
        self.assertIn([(("rail", 2), ("rung", 2), ("rail", 2)), (("rung", 6), ("rail", 6), ("rung", 6))], both)
        for rows in both:
            for row in rows:
                self.assert_equal(Pattern(*rows[0]), Pattern(*row), True)
        firsts = [Pattern(*rows[0]) for rows in list(groups.values())[::9]]
        for at, pattern in enumerate(firsts):
            for other in firsts[:at]:
                self.assertIs(pattern == other, False)

    def test_neighbours_put_together(self):
        for text, other in [
            ("rail 1, rail 2", "rail 3"), ("rail 1, rail 2", "rail 2, rail 1"), ("rung 3, rung 6", "rung 2"),
            ("rung 6, rung 3", "rung 4, rung 4"), ("rail 1, rung 4, rung 4, rail 2", "rail 1, rung 2, rail 2"),
            ("rung 2, rail 5, rail 7, rung 1", "rung 2, rail 12, rung 1"), ("rung 12, rung 12, rung 12", "rung 4"),
            ("rail 3, rail 3, rail 3, rail 3, rail 3, rail 3, rail 3, rail 3", "rail 12, rail 12"),
            ("rail 1, rung 1, rail 1", "rung 3, rail 3, rung 3"), ("rail 2, rung 2, rail 2", "rung 6, rail 6, rung 6"),
        ]:
            self.assert_equal(Pattern.read(text), Pattern.read(other), True)

    def test_unlike_ones(self):
        texts = [
            "rail 1", "rail 2", "rail 12", "rung 1", "rung 2", "rung 12", "rail 1, rung 1", "rung 1, rail 1", "rail 1, rung 2",
            "rail 2, rung 1", "rail 1, rung 1, rail 1", "rail 1, rung 1, rail 1, rung 1", "rung 1, rail 1, rung 1, rail 1",
            "rail 1, rail 12", "rung 2, rung 3", "rail 1, rung 1, rail 1, rung 1, rail 1, rung 1, rail 1, rung 1",
        ]
        for at, text in enumerate(texts):
            for other in texts[:at]:
                self.assert_equal(Pattern.read(text), Pattern.read(other), False)

    def test_one_piece_changed(self):
        for length in range(1, 9):
            for row in mixed_rows(length, 6):
                for at in range(length):
                    for piece in ALL_PIECES:
                        changed = (*row[:at], piece, *row[at + 1:])
                        self.assert_equal(pattern_of(row), pattern_of(changed), piece == row[at])

    def test_values_of_other_classes(self):
        for text in ("rail 1", "rung 2", "rail 1, rung 1"):
            pattern = Pattern.read(text)
            for other in [*others_than(Pattern), text, repr(pattern), pattern.pieces, pattern.numbers, list(pattern.pieces),
                          pattern.pieces[0]]:
                for a, b in ((pattern, other), (other, pattern)):
                    self.assertIs(a == b, False)
                    self.assertIs(a != b, True)
            for odd in (EqualsAll(), EqualsNothing()):
                self.assertIs(pattern == odd, False)
                self.assertIs(pattern != odd, True)


if __name__ == "__main__":
    unittest.main()

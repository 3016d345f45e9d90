import unittest
from fractions import Fraction

from model import number_of, order_of, pair_from, row_shows
from rungladders.comparing import more_load, never_more
from rungladders.limits import OPEN
from rungladders.patterns import Pattern
from run_samples import MOST, Drawer, pattern_of, row_with
from test_orders_late import rows_by_limit

PROBES = [(1, 0), 0, 1, 2, 3, 5, 8, 12, 30, 100, 10 ** 6, MOST, (1, 2), (1, 3), (2, 3), (1, 10), (7, 5), (1, 1000), (1, MOST), (17, 4)]


def shows(row, load):
    return pair_from(row_shows(row, number_of(load)))


class NeverMoreTest(unittest.TestCase):
    def check(self, row, other_row):
        """Returns whether the first one never shows more."""
        pattern, other = pattern_of(row), pattern_of(other_row)
        told, load = never_more(pattern, other), more_load(pattern, other)
        self.assertIs(type(told), bool)
        self.assertEqual((never_more(pattern=pattern, other=other), more_load(other=other, pattern=pattern)), (told, load))
        self.assertEqual(told, load is None)
        if told:
            for probe in PROBES:
                self.assertLessEqual(order_of(shows(row, probe), shows(other_row, probe)), 0, (row, other_row, probe))
        else:
            self.assertEqual([type(part) for part in load], [int, int])
            self.assertEqual(pair_from(number_of(load)), load)
            self.assertEqual(order_of(shows(row, load), shows(other_row, load)), 1, (row, other_row, load))
        return told

    def check_both(self, row, other_row):
        found = (self.check(row, other_row), self.check(other_row, row))
        self.assertEqual(found == (True, True), pattern_of(row) == pattern_of(other_row))
        return found

    def test_drawn(self):
        drawer = Drawer(41)
        found = [self.check_both(drawer.row(8), drawer.row(8)) for _ in range(1200)]
        for pair in ((True, False), (False, True), (False, False)):
            self.assertGreater(found.count(pair), 100)

    def test_one_ohm_less_or_more(self):
        drawer = Drawer(42)
        for _ in range(300):
            row = drawer.row(8)
            at = drawer.random.randrange(len(row))
            word, ohms = row[at]
            if ohms < 12:
                greater = row[:at] + ((word, ohms + 1),) + row[at + 1:]
                self.assertEqual(self.check_both(row, greater), (True, False))

    def test_one_piece_less_or_more(self):
        drawer = Drawer(43)
        for _ in range(300):
            row = drawer.row(7)
            at, piece = drawer.random.randrange(len(row) + 1), drawer.row(1)[0]
            longer = row[:at] + (piece,) + row[at:]
            self.assertEqual(self.check_both(row, longer), (True, False) if piece[0] == "rail" else (False, True))

    def test_turned(self):
        drawer = Drawer(44)
        for _ in range(200):
            row = drawer.row(8)
            self.check_both(row, row[::-1])

    def test_equal_patterns(self):
        for text, other_text in [("rung 3, rung 6", "rung 2"), ("rail 1, rail 2", "rail 3"), ("rail 1, rung 4, rung 4", "rail 1, rung 2"),
                                 ("rail 5, rung 1", "rail 5, rung 1"), ("rail 12, " * 7 + "rail 1", "rail 1, " + "rail 12, " * 6 + "rail 12")]:
            self.assertEqual(self.check_both(row_with(text), row_with(other_text)), (True, True))

    def test_less_at_both_ends_and_more_between(self):
        drawer = Drawer(45)
        many = 0
        for _ in range(20000):
            row, other_row = drawer.row(4), drawer.row(4)
            ends = [order_of(shows(row, load), shows(other_row, load)) for load in (0, (1, 0))]
            if max(ends) <= 0 and not self.check(row, other_row):
                many += 1
                load = more_load(pattern_of(row), pattern_of(other_row))
                self.assertNotIn(load, [OPEN, (0, 1)])
        self.assertGreater(many, 10)

    def test_more_only_within_narrow_bounds(self):
        for text, other_text in [("rail 11, rung 4, rung 2", "rail 8, rung 9, rail 5, rung 11"), ("rail 3, rung 2", "rung 12, rung 11, rail 5, rail 10"),
                                 ("rail 6, rung 7, rung 5", "rung 11, rail 12, rail 11"), ("rung 12, rail 6, rail 3, rung 11", "rung 10, rail 11"),
                                 ("rail 3, rail 3, rung 8, rung 12", "rail 4, rung 7, rail 11, rail 10")]:
            self.assertEqual(self.check_both(row_with(text), row_with(other_text)), (False, False))

    def test_patterns_that_touch(self):
        # With one limit and one rate two patterns show the same at the limit, and one of them less everywhere else.
        many = 0
        for limit, rows in rows_by_limit().items():
            rates = {}
            for row in rows:
                a, _, _, d = [Fraction(*pair) for pair in pattern_of(row).numbers]
                rates.setdefault(a + d, []).append(row)
            for row, *others in rates.values():
                for other_row in others:
                    many += 1
                    self.assertEqual(sorted(self.check_both(row, other_row)), [False, True])
        self.assertGreater(many, 40)

    def test_equal_at_the_ends(self):
        # Both rows show the same in front of 0 and of an open end, or grow alike, and are unlike between.
        for text, other_text in [("rung 2, rail 2", "rung 1"), ("rail 2, rung 3", "rail 2, rung 4"), ("rung 3", "rung 4"), ("rail 1", "rail 2"),
                                 ("rail 1, rung 1", "rail 2"), ("rail 1, rung 1", "rung 2")]:
            self.check_both(row_with(text), row_with(other_text))

    def test_ladders_of_both(self):
        drawer = Drawer(46)
        for _ in range(200):
            row, other_row = drawer.row(3), drawer.row(3)
            if self.check(row, other_row):
                for load in (0, 3, (1, 0)):
                    pair = other_pair = load
                    for _ in range(5):
                        pair, other_pair = shows(row, pair), shows(other_row, other_pair)
                        self.assertLessEqual(order_of(pair, other_pair), 0)

    def test_equal_calls(self):
        drawer = Drawer(47)
        for _ in range(200):
            row, other_row = drawer.row(3), drawer.row(3)
            ohms = {1: 2, 2: 4, 3: 6, 4: 8, 5: 10, 6: 12}
            # A rung in two halves makes an equal pattern of other pieces.
            halves = tuple(part for word, many in row for part in (
                [(word, ohms[many])] * 2 if word == "rung" and many in ohms else [(word, many)]))
            self.assertEqual(pattern_of(row), pattern_of(halves))
            told = more_load(pattern_of(row), pattern_of(other_row))
            self.assertEqual(more_load(pattern_of(halves), pattern_of(other_row)), told)
            self.assertEqual(more_load(Pattern.read(str(pattern_of(row))), pattern_of(other_row)), told)

    def test_written_out(self):
        golden, stairs = pattern_of(row_with("rail 1, rung 1")), pattern_of(row_with("rail 1, rung 2"))
        self.assertEqual((never_more(golden, stairs), more_load(golden, stairs)), (True, None))
        self.assertIs(never_more(stairs, golden), False)
        self.assertIs(never_more(pattern_of((("rail", 1),)), pattern_of((("rail", 2),))), True)
        self.assertIs(never_more(pattern_of((("rung", 1),)), pattern_of((("rail", 1),))), True)


if __name__ == "__main__":
    unittest.main()

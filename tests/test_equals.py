import unittest
from fractions import Fraction
from math import isqrt

from model import OPEN
from rungladders.equals import repetition, ring, star
from rungladders.errors import NotAPattern
from rungladders.ladders import Ladder
from rungladders.patterns import Pattern
from run_samples import Drawer, pattern_of, row_with
from samples import NO_INTEGERS, NO_PIECES, NO_RESISTANCES

LOADS = [Fraction(0), Fraction(1), Fraction(7, 3), OPEN]


def shows(row, number):
    """What a row of pieces with fractions or integers as ohms shows."""
    for word, ohms in reversed(row):
        ohms = Fraction(*ohms) if isinstance(ohms, tuple) else Fraction(ohms)
        if word == "rail":
            number = OPEN if number == OPEN else number + ohms
        else:
            number = ohms if number == OPEN else ohms * number / (ohms + number)
    return number


class EqualsCase(unittest.TestCase):
    def check_row(self, row, expected_row, words, times=1):
        self.assertIs(type(row), tuple)
        for piece in row:
            self.assertIs(type(piece), tuple)
            word, (top, bottom) = piece
            self.assertEqual((type(top), type(bottom)), (int, int))
            self.assertEqual((Fraction(top, bottom).numerator, Fraction(top, bottom).denominator), (top, bottom))
            self.assertGreater(top, 0)
        self.assertIn([word for word, _ in row], words)
        for load in LOADS:
            self.assertEqual(shows(row * times, load), shows(expected_row, load), (row, expected_row))


STARS = [["rail"], ["rung"], ["rail", "rung"], ["rung", "rail"], ["rail", "rung", "rail"]]
RINGS = [["rail"], ["rung"], ["rail", "rung"], ["rung", "rail"], ["rung", "rail", "rung"]]


class StarAndRingTest(EqualsCase):
    def check(self, row):
        pattern = pattern_of(row)
        self.check_row(star(pattern), row, STARS)
        self.check_row(ring(pattern), row, RINGS)
        self.assertEqual(star(pattern=pattern), star(pattern))
        self.assertEqual(ring(pattern=pattern), ring(pattern))

    def test_drawn(self):
        drawer = Drawer(51)
        for _ in range(500):
            self.check(drawer.row(8))

    def test_rails_alone_and_rungs_alone(self):
        drawer = Drawer(52)
        for word in ("rail", "rung"):
            for _ in range(50):
                row = drawer.row_of(word, 8)
                self.check(row)
                self.assertEqual(star(pattern_of(row)), ring(pattern_of(row)))
                self.assertEqual([part for part, _ in star(pattern_of(row))], [word])

    def test_shapes(self):
        for text, star_words, ring_words in [
            ("rail 1, rung 1", "rail rung", "rail rung"), ("rung 1, rail 1", "rung rail", "rung rail"),
            ("rail 1, rung 1, rail 1", "rail rung rail", "rung rail rung"), ("rung 1, rail 1, rung 1", "rail rung rail", "rung rail rung"),
            ("rail 1, rail 2, rung 3, rung 4", "rail rung", "rail rung"), ("rung 4, rung 3, rail 2", "rung rail", "rung rail"),
            ("rail 2", "rail", "rail"), ("rung 2, rung 2", "rung", "rung"),
        ]:
            pattern = Pattern.read(text)
            self.assertEqual(" ".join(word for word, _ in star(pattern)), star_words)
            self.assertEqual(" ".join(word for word, _ in ring(pattern)), ring_words)

    def test_written_out(self):
        self.assertEqual(star(Pattern.read("rail 1, rung 2, rail 3, rung 6")),
                         (("rail", (17, 11)), ("rung", (12, 11)), ("rail", (18, 11))))
        self.assertEqual(ring(Pattern.read("rail 1, rung 1")), (("rail", (1, 1)), ("rung", (1, 1))))
        self.assertEqual(ring(Pattern.read("rail 1, rung 1, rail 1")), (("rung", (3, 1)), ("rail", (3, 1)), ("rung", (3, 1))))
        self.assertEqual(star(Pattern.read("rung 3, rail 3, rung 3")), (("rail", (1, 1)), ("rung", (1, 1)), ("rail", (1, 1))))
        self.assertEqual(star(Pattern.read("rail 3, rail 4")), (("rail", (7, 1)),))
        self.assertEqual(ring(Pattern.read("rung 3, rung 6")), (("rung", (2, 1)),))


def product_of(first, second):
    a, b, c, d = first
    p, q, r, s = second
    return (a * p + b * r, a * q + b * s, c * p + d * r, c * q + d * s)


def has_root(four, count):
    """Whether a matrix of fractions at least 0, with a and d at least 1, has the given one as its power."""
    # By way of a decimal root that is close enough to tell the one fraction with a small enough bottom.
    scale = 10 ** 200
    total = four[0] + four[3]
    root = Fraction(isqrt(int((total * total - 4) * scale * scale)), scale)
    wanted = (total + root) / 2
    low, high = Fraction(1), wanted
    for _ in range(200):
        middle = Fraction(int((low + high) / 2 * 2 ** 220), 2 ** 220)
        if middle ** count < wanted:
            low = middle
        else:
            high = middle
    small = (low + 1 / low).limit_denominator(10 ** 5)
    more, less = Fraction(1), Fraction(0)
    for _ in range(count - 1):
        more, less = small * more - less, more
    a, b, c, d = four
    part = ((a + less) / more, b / more, c / more, (d + less) / more)
    power = (1, 0, 0, 1)
    for _ in range(count):
        power = product_of(power, part)
    return power == tuple(four) and part[0] >= 1 and part[3] >= 1


class RepetitionTest(EqualsCase):
    def check(self, row):
        pattern = pattern_of(row)
        told = repetition(pattern)
        self.assertEqual(repetition(pattern=pattern), told)
        self.assertIs(type(told), tuple)
        count, part = told
        self.assertIs(type(count), int)
        self.check_row(part, row, STARS[2:], count)
        return count

    def test_none_for_rails_alone_and_rungs_alone(self):
        drawer = Drawer(53)
        for word in ("rail", "rung"):
            for _ in range(20):
                self.assertIsNone(repetition(pattern_of(drawer.row_of(word, 8))))

    def test_repeated_rows(self):
        drawer = Drawer(54)
        for times in range(1, 9):
            for _ in range(25):
                row = drawer.row(8 // times) * times
                if len({word for word, _ in row}) == 2:
                    self.assertEqual(self.check(row) % times, 0)

    def test_repeated_rows_seen_in_other_pieces(self):
        for text, count in [
            ("rail 1, rung 2, rail 2, rung 2, rail 1", 2), ("rail 1, rung 2, rail 2, rung 2, rail 2, rung 2, rail 1", 3),
            ("rung 2, rail 1, rung 1, rail 1, rung 2", 2), ("rung 4, rail 3, rung 2, rail 3, rung 2, rail 3, rung 4", 3),
            ("rail 1, rung 1", 1), ("rail 1, rung 2", 1), ("rail 12, rung 12, rail 12", 1), ("rail 1, rung 1, rail 1, rung 1", 2),
            ("rail 1, rung 2, " * 3 + "rail 1, rung 2", 4),
        ]:
            self.assertEqual(self.check(row_with(text)), count, text)

    def test_no_greater_number(self):
        drawer = Drawer(55)
        rows = [drawer.row(8) for _ in range(40)] + [drawer.row(4) * 2 for _ in range(20)] + [drawer.row(2) * 4 for _ in range(20)]
        rows += [row_with("rail 1, rung 2, rail 2, rung 2, rail 1"), row_with("rung 2, rail 1, rung 1, rail 1, rung 2")]
        for row in rows:
            if len({word for word, _ in row}) == 2:
                count = self.check(row)
                four = [Fraction(*pair) for pair in pattern_of(row).numbers]
                found = [times for times in range(1, 31) if has_root(four, times)]
                self.assertEqual(max(found), count, row)

    def test_roots_that_need_fractions(self):
        # All rings and stars of which both rails, or both rungs, are alike: some of them are squares of fractions.
        found = {}
        for ohms in range(1, 13):
            for other in range(1, 13):
                for words in (("rail", "rung", "rail"), ("rung", "rail", "rung")):
                    row = ((words[0], ohms), (words[1], other), (words[2], ohms))
                    count, part = repetition(pattern_of(row))
                    self.check(row)
                    four = [Fraction(*pair) for pair in pattern_of(row).numbers]
                    self.assertEqual(max(times for times in range(1, 9) if has_root(four, times)), count, row)
                    found.setdefault(count, []).append(part)
        self.assertIn(2, found)
        self.assertTrue(any(bottom > 1 for part in found[2] for _, (top, bottom) in part))

    def test_from_behind(self):
        drawer = Drawer(56)
        for _ in range(60):
            row = drawer.row(4) * 2
            if len({word for word, _ in row}) == 2:
                count, part = repetition(pattern_of(row))
                other_count, other_part = repetition(pattern_of(row).turned())
                self.assertEqual((other_count, other_part), (count, part[::-1]))

    def test_equal_patterns(self):
        self.assertEqual(repetition(Pattern.read("rail 1, rung 2")), repetition(Pattern.read("rail 1, rung 3, rung 6")))
        self.assertEqual(repetition(Pattern.read("rail 1, rung 1, rail 1, rung 1")), (2, (("rail", (1, 1)), ("rung", (1, 1)))))


class RefusedTest(unittest.TestCase):
    def test_no_pattern(self):
        for value in [*NO_INTEGERS, *NO_RESISTANCES, *NO_PIECES, 1, (("rail", 1),), "rail 1", Pattern, Ladder(Pattern(("rail", 1)), 0)]:
            for function in (star, ring, repetition):
                for call in (lambda: function(value), lambda: function(pattern=value)):
                    with self.assertRaises(NotAPattern) as context:
                        call()
                    self.assertIs(context.exception.given, value)


if __name__ == "__main__":
    unittest.main()

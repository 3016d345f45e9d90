import inspect
import unittest
from fractions import Fraction
from itertools import islice
from math import lcm

from model import mixed_rows, order_of, run_of
from rungladders.errors import InvalidCount, InvalidResistance, NotAPattern
from rungladders.exact import Exact
from rungladders.ladders import Ladder
from rungladders.limits import OPEN
from rungladders.patterns import Pattern
from samples import NO_COUNTS, NO_INTEGERS, NO_PIECES, NO_RESISTANCES, EqualsAll, EqualsNothing, others_than

MOST = 10 ** 12
LOADS = [0, 1, 2, 100, MOST, (0, 5), (1, 2), (6, 4), (1, MOST), (MOST, MOST - 1), (4 * 10 ** 11, 2 * 10 ** 11), (1, 0)]
MIXED = ["rail 1, rung 1", "rung 1, rail 1", "rail 1, rung 2", "rung 2, rail 1", "rail 12, rung 1", "rail 1, rung 12",
         "rung 12, rail 1", "rail 3, rung 4, rail 5", "rung 3, rail 4, rung 5", "rail 1, rail 2, rung 6, rung 3",
         "rail 11, rung 12, rail 7, rung 5, rail 1, rung 12, rail 12, rung 7"]
RAILS = ["rail 1", "rail 12", "rail 3, rail 4", "rail 12, " * 7 + "rail 12"]
RUNGS = ["rung 1", "rung 12", "rung 3, rung 4", "rung 12, " * 7 + "rung 12"]


def ladders(texts=(*MIXED, *RAILS, *RUNGS)):
    for text in texts:
        for load in LOADS:
            yield Pattern.read(text), load


class RunTest(unittest.TestCase):
    def test_each_number(self):
        for pattern, load in ladders():
            expected = run_of(pattern.pieces, load, 100)
            run = Ladder(pattern, load)
            self.assertEqual([run(count) for count in range(101)], expected, (pattern, load))
            self.assertEqual([run(count=count) for count in (0, 1, 50, 100)], [expected[at] for at in (0, 1, 50, 100)])
            for pair in expected[:3]:
                self.assertEqual([type(part) for part in pair], [int, int])

    def test_opening_of_all(self):
        for pattern, load in ladders():
            expected = run_of(pattern.pieces, load, 100)
            run = Ladder(pattern, load)
            self.assertEqual(list(run.opening(100)), expected[:100], (pattern, load))
            for count in (0, 1, 2, 7):
                self.assertEqual(list(run.opening(count)), expected[:count])
                self.assertEqual(list(run.opening(count=count)), expected[:count])

    def test_opening_with_each_count(self):
        for text, load in (("rail 1, rung 1", 1), ("rung 2, rail 7", (1, 0)), ("rail 2", (1, 3)), ("rung 5", 12)):
            expected = run_of(Pattern.read(text).pieces, load, 100)
            run = Ladder(Pattern.read(text), load)
            for count in range(101):
                self.assertEqual(list(run.opening(count)), expected[:count])

    def test_mixed_rows(self):
        for length in range(1, 5):
            for row in mixed_rows(length, 12):
                for load in (0, (7, 3), (1, 0)):
                    expected = run_of(row, load, 30)
                    run = Ladder(Pattern(*row), load)
                    self.assertEqual([run(count) for count in range(31)], expected)
                    self.assertEqual(list(run.opening(31)), expected)

    def test_asked_again_and_in_another_order(self):
        for pattern, load in ladders(["rail 1, rung 1", "rung 3, rail 4, rung 5", "rail 3", "rung 2"]):
            expected = run_of(pattern.pieces, load, 100)
            run = Ladder(pattern, load)
            for count in [100, 3, 3, 0, 57, 99, 1, 100, 0]:
                self.assertEqual(run(count), expected[count])
                self.assertEqual(list(run.opening(count)), expected[:count])
                self.assertEqual(run(count), expected[count])

    def test_two_openings_side_by_side(self):
        run = Ladder(Pattern(("rail", 1), ("rung", 1)), 0)
        expected = run_of((("rail", 1), ("rung", 1)), 0, 100)
        first = run.opening(100)
        self.assertTrue(inspect.isgenerator(first))
        self.assertEqual(list(islice(first, 5)), expected[:5])
        self.assertEqual(list(run.opening(8)), expected[:8])
        self.assertEqual(run(20), expected[20])
        self.assertEqual(next(first), expected[5])
        self.assertEqual(list(zip(run.opening(9), run.opening(9))), [(pair, pair) for pair in expected[:9]])

    def test_written_out(self):
        golden = Pattern(("rail", 1), ("rung", 1))
        self.assertEqual(list(Ladder(golden, (1, 1)).opening(4)), [(1, 1), (3, 2), (8, 5), (21, 13)])
        self.assertEqual(list(Ladder(golden, (1, 0)).opening(4)), [(1, 0), (2, 1), (5, 3), (13, 8)])
        self.assertEqual(list(Ladder(Pattern(("rail", 3)), (1, 2)).opening(3)), [(1, 2), (7, 2), (13, 2)])
        self.assertEqual(list(Ladder(Pattern(("rung", 6)), (1, 0)).opening(4)), [(1, 0), (6, 1), (3, 1), (2, 1)])
        self.assertEqual(Ladder(Pattern(("rail", 3)), (1, 0))(100), (1, 0))
        self.assertEqual(Ladder(Pattern(("rung", 3)), 0)(100), (0, 1))
        self.assertEqual(Ladder(Pattern(("rail", 12)), MOST)(100), (MOST + 1200, 1))


class PropertiesTest(unittest.TestCase):
    def test_goes(self):
        for pattern, load in ladders():
            expected = run_of(pattern.pieces, load, 100)
            goes = Ladder(pattern, load).goes
            self.assertIs(type(goes), int)
            self.assertEqual({order_of(after, before) for before, after in zip(expected, expected[1:])}, {goes})

    def test_goes_written_out(self):
        for text, load, goes in [
            ("rail 1", 0, 1), ("rail 1", MOST, 1), ("rail 1", (1, 0), 0), ("rail 1, rail 2", (1, 0), 0),
            ("rung 1", 0, 0), ("rung 1", (0, 9), 0), ("rung 1", (1, MOST), -1), ("rung 1", (1, 0), -1),
            ("rail 1, rung 2", 2, 0), ("rail 1, rung 2", (4, 2), 0), ("rail 1, rung 2", (MOST, MOST // 2), 0),
            ("rail 1, rung 2", (MOST - 1, MOST // 2), 1), ("rail 1, rung 2", (MOST, MOST // 2 - 1), -1),
            ("rail 1, rung 2", 1, 1), ("rail 1, rung 2", 3, -1), ("rail 1, rung 2", (1, 0), -1), ("rail 1, rung 2", 0, 1),
            ("rung 2, rail 1", 1, 0), ("rung 2, rail 1", 0, 1), ("rung 2, rail 1", 2, -1),
            ("rail 1, rung 1", (610, 377), -1), ("rail 1, rung 1", (377, 233), 1),
            ("rail 1, rung 1", (591286729879, 365435296162), 1), ("rail 1, rung 1", (956722026041, 591286729879), -1),
        ]:
            self.assertEqual(Ladder(Pattern.read(text), load).goes, goes, (text, load))

    def test_limit_of_rails_and_rungs(self):
        near = Fraction(1, 10 ** 15)
        for pattern, load in ladders(MIXED):
            run = Ladder(pattern, load)
            self.assertIs(type(run.limit), Exact)
            square, line, whole = run.limit.equation
            last = Fraction(*run_of(pattern.pieces, load, 100)[100])
            low, high = last - near, last + near
            self.assertLess(square * low * low + line * low, whole)
            self.assertGreater(square * high * high + line * high, whole)
            self.assertEqual(run.goes, run.limit.compare(load))
            a, b, c, d = [Fraction(*pair) for pair in pattern.numbers]
            scale = lcm(*[part.denominator for part in (a, b, c, d)])
            self.assertEqual(run.limit, Exact(int(c * scale), int((d - a) * scale), int(b * scale)), pattern)

    def test_limit_of_rails_alone(self):
        for pattern, load in ladders(RAILS):
            self.assertEqual(Ladder(pattern, load).limit, (1, 0))
            self.assertEqual([type(part) for part in Ladder(pattern, load).limit], [int, int])

    def test_limit_of_rungs_alone(self):
        for pattern, load in ladders(RUNGS):
            limit = Ladder(pattern, load).limit
            self.assertIs(type(limit), Exact)
            self.assertEqual(limit.fraction, (0, 1))

    def test_limit_written_out(self):
        for text, limit in [
            ("rail 1, rung 1", "root of 1, -1, 1"), ("rung 1, rail 1", "root of 1, 1, 1"), ("rail 1, rung 2", "2"),
            ("rung 2, rail 1", "1"), ("rail 3, rung 6", "6"), ("rail 1, rung 6", "3"), ("rail 1, rung 12", "4"),
            ("rail 2, rung 3, rail 2", "4"), ("rail 1, rung 1, rail 1", "root of 1, 0, 3"), ("rung 5", "0"),
            ("rung 1, rail 1, rung 1", "root of 3, 0, 1"), ("rail 1, rung 1, rail 1, rung 1", "root of 1, -1, 1"),
        ]:
            for load in LOADS:
                self.assertEqual(str(Ladder(Pattern.read(text), load).limit), limit, (text, load))

    def test_load_in_lowest_terms(self):
        pattern = Pattern(("rail", 1), ("rung", 1))
        for load, told in [
            (0, (0, 1)), (7, (7, 1)), ((0, 5), (0, 1)), ((6, 4), (3, 2)), ((3, 2), (3, 2)), ((MOST, MOST), (1, 1)),
            (MOST, (MOST, 1)), ((1, MOST), (1, MOST)), ((1, 0), (1, 0)), (OPEN, (1, 0)), ((144, 12), (12, 1)),
        ]:
            run = Ladder(pattern, load)
            self.assertEqual(run.load, told)
            self.assertEqual(run(0), told)
            self.assertEqual(list(run.opening(1)), [told])

    def test_the_very_pattern(self):
        for pattern in (Pattern(("rail", 1)), Pattern.read("rail 1, " * 7 + "rung 1"), Pattern(("rung", 2)).turned()):
            self.assertIs(Ladder(pattern, 0).pattern, pattern)
            self.assertIs(Ladder(load=0, pattern=pattern).pattern, pattern)

    def test_properties_are_not_assigned(self):
        run = Ladder(Pattern(("rail", 1)), 0)
        for name in ("goes", "limit", "load", "pattern"):
            with self.assertRaises(AttributeError):
                setattr(run, name, 1)

    def test_equal_only_to_itself(self):
        pattern = Pattern(("rail", 1))
        run, other_run = Ladder(pattern, 0), Ladder(pattern, 0)
        self.assertIs(run == run, True)
        self.assertIs(run != run, False)
        for other in [other_run, pattern, *others_than(Ladder)]:
            for a, b in ((run, other), (other, run)):
                self.assertIs(a == b, False)
                self.assertIs(a != b, True)
        self.assertIs(bool(run), True)


class RefusedTest(unittest.TestCase):
    GOOD = Pattern(("rail", 1), ("rung", 1))
    NO_PATTERNS = [*NO_INTEGERS, *NO_RESISTANCES, *NO_PIECES, 0, 1, ("rail", 1), (("rail", 1), ("rung", 1)), "rail 1, rung 1",
                   Pattern, Ladder, Ladder(GOOD, 0), Exact(0, 1, 1), [GOOD], (GOOD,)]

    def assert_refused(self, error, given, pattern, load):
        for made in (lambda: Ladder(pattern, load), lambda: Ladder(pattern=pattern, load=load),
                     lambda: Ladder(load=load, pattern=pattern), lambda: Ladder(pattern, load=load)):
            with self.assertRaises(error) as context:
                made()
            self.assertIs(type(context.exception), error)
            self.assertIs(context.exception.given, given)

    def test_no_pattern(self):
        for value in self.NO_PATTERNS:
            self.assert_refused(NotAPattern, value, value, 0)

    def test_no_resistance(self):
        for value in [*NO_RESISTANCES, self.GOOD, Pattern]:
            self.assert_refused(InvalidResistance, value, self.GOOD, value)

    def test_pattern_is_checked_first(self):
        for value in (None, True, 0, "rail 1", EqualsAll(), EqualsNothing()):
            for load in NO_RESISTANCES:
                self.assert_refused(NotAPattern, value, value, load)

    def test_two_arguments_alone(self):
        for passed in ((), (self.GOOD,), (self.GOOD, 0, 0)):
            with self.assertRaises(TypeError):
                Ladder(*passed)

    def test_no_count(self):
        for pattern, load in [(self.GOOD, 1), (Pattern(("rail", 3)), (1, 0)), (Pattern(("rung", 3)), 0)]:
            run = Ladder(pattern, load)
            for value in [*NO_COUNTS, run, pattern]:
                for asked in (lambda: run(value), lambda: run(count=value), lambda: next(run.opening(value)),
                              lambda: next(run.opening(count=value)), lambda: list(run.opening(value))):
                    with self.assertRaises(InvalidCount) as context:
                        asked()
                    self.assertIs(context.exception.given, value)

    def test_bounds_of_counts(self):
        run = Ladder(self.GOOD, 1)
        self.assertEqual(run(0), (1, 1))
        self.assertEqual(list(run.opening(0)), [])
        self.assertEqual(len(list(run.opening(100))), 100)
        for count in (-1, 101):
            with self.assertRaises(InvalidCount):
                run(count)


if __name__ == "__main__":
    unittest.main()

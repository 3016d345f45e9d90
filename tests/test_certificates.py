import unittest
from fractions import Fraction

from model import number_of, order_of
from rungladders.boxes import Box
from rungladders.certificates import certify_apart, certify_bound, certify_limit, certify_never, certify_value
from rungladders.checker import accepts
from rungladders.comparing import less, more_load, never_more, within
from rungladders.errors import InvalidCount, InvalidResistance, NotAPattern, NotARun, TooMany
from rungladders.ladders import Ladder
from rungladders.limits import OPEN
from rungladders.numbers import Numbers
from rungladders.patterns import Pattern
from run_samples import MOST, BoxSample, Drawer, LadderSample, pattern_of, row_with
from samples import NO_COUNTS, NO_INTEGERS, NO_PIECES, NO_RESISTANCES
from test_orders_late import rows_by_limit

GOLDEN, STAIRS, LINE, RUNG = [Pattern.read(text) for text in ("rail 1, rung 1", "rail 1, rung 2", "rail 2", "rung 3")]


def lowest(load):
    if load == OPEN:
        return OPEN
    number = number_of(load)
    return (number.numerator, number.denominator)


class CertificatesCase(unittest.TestCase):
    def assert_certified(self, told, claim):
        """A pair of the claim and of a certificate that the checker accepts."""
        self.assertIs(type(told), tuple)
        self.assertEqual(len(told), 2)
        self.assertEqual(told[0], claim)
        self.assertIs(accepts(*told), True, told)


class ValueTest(CertificatesCase):
    def test_ladders(self):
        drawer = Drawer(91)
        for _ in range(60):
            sample = LadderSample(drawer.row(8), drawer.load())
            for count in (0, 1, 2, 7, 100):
                shown = sample.shown(count)[count]
                for told in (certify_value(sample.run, count), certify_value(run=sample.run, count=count), certify_value(count=count, run=sample.run)):
                    self.assert_certified(told, ("value", sample.row, lowest(sample.load), count, shown))
                    self.assertEqual(told[1], ())

    def test_runs_of_boxes(self):
        drawer = Drawer(92)
        for _ in range(60):
            sample = drawer.box_run()
            for count in (0, 1, 2, 7, 60, 100):
                shown = sample.shown(count)[count]
                word = "greatest" if sample.sense == 1 else "least of all"
                told = certify_value(sample.run, count)
                self.assert_certified(told, (word, tuple(sample.rows), lowest(sample.load), count, shown))
                self.assertEqual(told[1], sample.run.order(count))
                self.assertEqual(certify_value(count=count, run=sample.run), told)

    def test_boxes_of_long_patterns(self):
        long = row_with("rail 1, rung 2, rail 3, rung 4, rail 5, rung 6, rail 7, rung 8")
        for sense in (1, -1):
            sample = BoxSample([long, long[::-1], long[:3]], (6, 4), sense)
            for count in range(0, 101, 10):
                self.assertIs(accepts(*certify_value(sample.run, count)), True)


class BoundTest(CertificatesCase):
    def check(self, pattern, load, bound):
        """Returns the word of the claim, None if there is none."""
        told = certify_bound(pattern, load, bound)
        self.assertEqual(certify_bound(bound=bound, load=load, pattern=pattern), told)
        run = Ladder(pattern, load)
        most, least = within(run, 0, bound) == Numbers((0, None)), within(run, bound, (1, 0)) == Numbers((0, None))
        word = "most" if most else "least" if least else None
        if word is None:
            self.assertIsNone(told, (pattern, load, bound))
        else:
            self.assert_certified(told, (word, pattern.pieces, lowest(load), lowest(bound)))
        return word

    def bounds_for(self, pattern, load):
        found = [load, 0, 1, (1, 0), MOST, (1, MOST), (6, 4)]
        if load != OPEN:
            top, bottom = lowest(load)
            found += [(top * 1000 + 1, bottom * 1000), (max(0, top * 1000 - 1), bottom * 1000)]
        limit = Ladder(pattern, load).limit
        if limit != OPEN:
            floor = limit.floor(10 ** 9)
            found += [(floor, 10 ** 9), (floor + 1, 10 ** 9), (max(0, floor - 1), 10 ** 9), (floor + 2, 10 ** 9)]
            if limit.fraction is not None:
                found.append(limit.fraction)
        return [bound for bound in found if isinstance(bound, int) or max(bound) <= MOST]

    def test_drawn(self):
        drawer = Drawer(93)
        words = []
        for _ in range(200):
            pattern, load = pattern_of(drawer.row(8)), drawer.load()
            for bound in self.bounds_for(pattern, load):
                words.append(self.check(pattern, load, bound))
        for word in ("most", "least", None):
            self.assertGreater(words.count(word), 100)

    def test_listed(self):
        for pattern in (GOLDEN, STAIRS, LINE, RUNG):
            for load in (0, 1, 2, 3, (1, 0), (1, 3), (1618, 1000)):
                for bound in self.bounds_for(pattern, load):
                    self.check(pattern, load, bound)

    def test_written_out(self):
        for pattern, load, bound, word in [
            (GOLDEN, 0, 1, None), (GOLDEN, 0, 2, "most"), (GOLDEN, 0, 0, "least"), (STAIRS, 2, 2, "most"), (STAIRS, 0, 2, "most"), (STAIRS, 5, 2, "least"),
            (LINE, 0, (1, 0), "most"), (LINE, (1, 0), (1, 0), "most"), (LINE, 3, 3, "least"), (LINE, 3, 4, None), (RUNG, 4, 0, "least"), (RUNG, 0, 0, "most"),
            (RUNG, 4, 4, "most"), (RUNG, 4, 3, None), (RUNG, (1, 0), (1, 0), "most"),
        ]:
            self.assertEqual(self.check(pattern, load, bound), word, (pattern, load, bound))


class ApartTest(CertificatesCase):
    def can_be_certified(self, sample, other, shown, other_shown, count):
        """Whether there is a certificate for this number, by the set of those that there may be."""
        if order_of(shown[count], other_shown[count]) >= 0:
            return False
        limits = [Ladder(pattern_of(part.row), 0).limit for part in (sample, other)]
        pairs = [OPEN if limit == OPEN else limit.fraction for limit in limits]
        # Certificates lie from the limit of the first ladder to that of the second one.
        if limits[0] != OPEN and limits[1] != OPEN:
            order = limits[0].order(limits[1])
            if order > 0 or (order == 0 and pairs[0] is None):
                return False
        elif limits[0] == OPEN and limits[1] != OPEN:
            return False
        return self.beside(limits[1], shown[count]) >= 0 and self.beside(limits[0], other_shown[count]) <= 0

    def beside(self, limit, pair):
        if limit == OPEN:
            return 0 if pair == OPEN else 1
        if pair == OPEN:
            return -1
        square, line, whole = limit.equation
        number = Fraction(*pair)
        left = square * number * number + line * number
        return (whole > left) - (whole < left)

    def check(self, sample, other):
        told = certify_apart(sample.run, other.run)
        self.assertEqual(certify_apart(other=other.run, run=sample.run), told)
        self.assertEqual(certify_apart(run=sample.run, other=other.run), told)
        shown, other_shown = sample.shown(100), other.shown(100)
        count = next((number for number in range(101) if self.can_be_certified(sample, other, shown, other_shown, number)), None)
        if count is None:
            self.assertIsNone(told, (sample, other))
            return None
        self.assert_certified(told, ("apart", sample.row, lowest(sample.load), other.row, lowest(other.load), count))
        self.assertEqual([type(part) for part in told[1]], [int, int])
        self.assertEqual(lowest(told[1]), told[1])
        for number, pairs in enumerate(zip(shown, other_shown)):
            if number >= count:
                self.assertEqual(order_of(*pairs), -1)
        return count

    def test_drawn(self):
        drawer = Drawer(94)
        counts = []
        for _ in range(250):
            sample, other = drawer.ladder(), drawer.ladder()
            counts += [self.check(sample, other), self.check(other, sample)]
        self.assertGreater(counts.count(0), 30)
        self.assertGreater(counts.count(None), 30)
        self.assertGreater(len([count for count in counts if count]), 30)

    def test_near_one_another(self):
        drawer = Drawer(95)
        for _ in range(120):
            row, load = drawer.row(4), drawer.load()
            at = drawer.random.randrange(len(row))
            word, ohms = row[at]
            other_row = row[:at] + ((word, ohms % 12 + 1),) + row[at + 1:]
            for other_load in (load, drawer.load()):
                sample, other = LadderSample(row, load), LadderSample(other_row, other_load)
                self.check(sample, other)
                self.check(other, sample)

    def test_one_pattern(self):
        for text in ("rail 1, rung 1", "rail 1, rung 2", "rail 2", "rung 3"):
            for load in (0, 1, 2, 3, (1, 0)):
                for other_load in (0, 1, 2, 3, (1, 0)):
                    self.check(LadderSample(row_with(text), load), LadderSample(row_with(text), other_load))

    def test_one_limit(self):
        drawer = Drawer(96)
        counts = []
        for limit, rows in list(rows_by_limit().items())[::4]:
            row, other_row = drawer.random.sample(rows, 2)
            loads = [0, 1, 100, (1, 0)]
            if limit[0] == 0:
                loads += [(limit[2], limit[1])] * 2
            counts.append(self.check(LadderSample(row, drawer.random.choice(loads)), LadderSample(other_row, drawer.random.choice(loads))))
            if limit[0] != 0:
                self.assertIsNone(counts[-1])
        self.assertIn(0, counts)

    def test_rails_alone_and_rungs_alone(self):
        drawer = Drawer(97)
        for _ in range(60):
            rails, rungs = drawer.row_of("rail"), drawer.row_of("rung")
            samples = [LadderSample(row, drawer.load()) for row in (rails, rungs, drawer.row_of("rail"), drawer.row_of("rung"), GOLDEN.pieces)]
            for sample in samples:
                for other in samples:
                    self.check(sample, other)

    def test_late(self):
        # The rungs need many sections to come below the limit of the other ladder.
        counts = [self.check(LadderSample((("rung", 12),), (1, 0)), LadderSample(row_with("rung 1, " * 7 + "rail 1"), 0))]
        self.assertGreater(counts[0], 80)
        self.assertIsNone(self.check(LadderSample((("rung", 12),), 0), LadderSample((("rung", 12),), 0)))

    def test_limits_that_lie_close(self):
        rows = [row_with(text) for text in ("rail 11, rung 12, rail 7, rung 5, rail 1, rung 12, rail 12, rung 7", "rail 11, rung 12, rail 7, rung 5, rail 1, rung 12, rail 12, rung 8")]
        for load in (0, (1, 0), 18):
            for other_load in (0, (1, 0), 18):
                self.check(LadderSample(rows[0], load), LadderSample(rows[1], other_load))
                self.check(LadderSample(rows[1], load), LadderSample(rows[0], other_load))

    def test_as_less_tells(self):
        drawer = Drawer(98)
        for _ in range(100):
            sample, other = drawer.ladder(), drawer.ladder()
            told = certify_apart(sample.run, other.run)
            try:
                numbers = less(sample.run, other.run)
            except TooMany:
                self.assertIsNone(told)
                continue
            if told is not None:
                self.assertEqual(numbers & Numbers((told[0][5], None)), Numbers((told[0][5], None)))


class NeverAndLimitTest(CertificatesCase):
    def test_never(self):
        drawer = Drawer(99)
        for _ in range(300):
            pattern, other = pattern_of(drawer.row(8)), pattern_of(drawer.row(8))
            told = certify_never(pattern, other)
            self.assertEqual((certify_never(pattern=pattern, other=other), certify_never(other=other, pattern=pattern)), (told, told))
            if never_more(pattern, other):
                self.assert_certified(told, ("never", pattern.pieces, other.pieces))
            else:
                self.assert_certified(told, ("more", pattern.pieces, other.pieces, more_load(pattern, other)))
            self.assertEqual(told[1], ())

    def test_limit(self):
        drawer = Drawer(100)
        for _ in range(200):
            pattern, load = pattern_of(drawer.row(8)), drawer.load()
            limit = Ladder(pattern, load).limit
            told = certify_limit(pattern, load)
            self.assertEqual((certify_limit(pattern=pattern, load=load), certify_limit(load=load, pattern=pattern)), (told, told))
            self.assert_certified(told, ("limit", pattern.pieces, lowest(load), OPEN if limit == OPEN else limit.equation))
            self.assertEqual(told[1], ())

    def test_equal_calls(self):
        for load, other_load in ((3, (6, 2)), ((1, 2), (2, 4)), (0, (0, 9))):
            self.assertEqual(certify_limit(GOLDEN, load), certify_limit(Pattern(*GOLDEN.pieces), other_load))
            self.assertEqual(certify_bound(GOLDEN, load, 7), certify_bound(Pattern(*GOLDEN.pieces), other_load, (14, 2)))
            self.assertEqual(certify_value(Ladder(GOLDEN, load), 5), certify_value(Ladder(GOLDEN, other_load), 5))
            self.assertEqual(certify_apart(Ladder(GOLDEN, load), Ladder(STAIRS, 9)), certify_apart(Ladder(GOLDEN, other_load), Ladder(STAIRS, (18, 2))))


PLAIN = [*NO_INTEGERS, *NO_RESISTANCES, *NO_PIECES, "rail 1", ("rail", 1)]
BOX = Box(GOLDEN, RUNG)
RUNS = [Ladder(GOLDEN, 0), BOX.greatest(0), BOX.least(0)]


class RefusedTest(unittest.TestCase):
    def assert_refused(self, function, names, passed, error, given):
        by_name = dict(zip(names, passed))
        for call in (lambda: function(*passed), lambda: function(**by_name), lambda: function(**dict(reversed(list(by_name.items()))))):
            with self.assertRaises(error) as context:
                call()
            self.assertIs(type(context.exception), error)
            self.assertIs(context.exception.given, given)

    def test_value(self):
        names = ("run", "count")
        for value in [*PLAIN, GOLDEN, BOX, 5]:
            for count in (0, -1, None):
                self.assert_refused(certify_value, names, (value, count), NotARun, value)
        for value in [*NO_COUNTS, GOLDEN]:
            for run in RUNS:
                self.assert_refused(certify_value, names, (run, value), InvalidCount, value)

    def test_bound(self):
        names = ("pattern", "load", "bound")
        for value in [*PLAIN, BOX, *RUNS]:
            for load, bound in ((0, 0), (None, None), (0, None)):
                self.assert_refused(certify_bound, names, (value, load, bound), NotAPattern, value)
        for value in [*NO_RESISTANCES, GOLDEN]:
            for bound in (0, None, -1):
                self.assert_refused(certify_bound, names, (GOLDEN, value, bound), InvalidResistance, value)
            self.assert_refused(certify_bound, names, (GOLDEN, 0, value), InvalidResistance, value)

    def test_apart(self):
        names = ("run", "other")
        for value in [*PLAIN, GOLDEN, BOX, *RUNS[1:]]:
            for other in (RUNS[0], None, RUNS[1], RUNS[2]):
                self.assert_refused(certify_apart, names, (value, other), NotARun, value)
            self.assert_refused(certify_apart, names, (RUNS[0], value), NotARun, value)

    def test_never(self):
        names = ("pattern", "other")
        for value in [*PLAIN, BOX, *RUNS]:
            for other in (GOLDEN, None, 5):
                self.assert_refused(certify_never, names, (value, other), NotAPattern, value)
            self.assert_refused(certify_never, names, (GOLDEN, value), NotAPattern, value)

    def test_limit(self):
        names = ("pattern", "load")
        for value in [*PLAIN, BOX, *RUNS]:
            for load in (0, None):
                self.assert_refused(certify_limit, names, (value, load), NotAPattern, value)
        for value in [*NO_RESISTANCES, GOLDEN]:
            self.assert_refused(certify_limit, names, (GOLDEN, value), InvalidResistance, value)


if __name__ == "__main__":
    unittest.main()

import unittest
from fractions import Fraction

from model import number_of, order_of, run_of
from rungladders.comparing import count_of, within
from rungladders.ladders import Ladder
from rungladders.limits import OPEN
from rungladders.numbers import Numbers
from run_samples import MOST, BoxSample, Drawer, LadderSample, pattern_of, row_with

ALL = Numbers((0, None))
MIXED = ["rail 1, rung 1", "rail 1, rung 2", "rung 2, rail 1", "rail 1, rung 12", "rung 3, rail 4, rung 5", "rail 1, rung 4, rail 1"]


def is_resistance(pair):
    return pair == OPEN or max(pair) <= MOST


def limit_places(run):
    """Bounds at the limit, where this is a fraction, and beside it by up to 10 ** -11."""
    if run.limit == OPEN:
        return [OPEN]
    found = []
    for times in (1, 1000, 10 ** 6, 10 ** 9, 10 ** 11):
        floor = run.limit.floor(times)
        found += [(max(0, floor + step), times) for step in (-1, 0, 1, 2)]
    if run.limit.fraction is not None:
        top, bottom = run.limit.fraction
        found += [(top, bottom), (top * 10 ** 8 + 1, bottom * 10 ** 8), (max(0, top * 10 ** 8 - 1), bottom * 10 ** 8)]
    return [pair for pair in found if is_resistance(pair)]


class WithinCase(unittest.TestCase):
    def check(self, sample, low, high, shown):
        """`shown` holds enough numbers to see everything."""
        told = within(sample.run, low, high)
        self.assertIs(type(told), Numbers)
        self.assertEqual(within(run=sample.run, high=high, low=low), told)
        low_pair, high_pair = [(bound, 1) if isinstance(bound, int) else bound for bound in (low, high)]
        expected = [order_of(low_pair, pair) <= 0 and order_of(pair, high_pair) <= 0 for pair in shown]
        self.assertEqual([number in told for number in range(len(shown))], expected, (sample, low, high))
        self.assertLessEqual(len(told.stretches), 1)
        return told

    def shown_far(self, sample):
        """So many sections that bounds of resistances are passed, or never are."""
        return sample.shown(130)


class BoundsTest(WithinCase):
    def test_ladders_with_rails_and_rungs(self):
        drawer = Drawer(21)
        for text in MIXED:
            for load in (0, (1, 0), 5, (1, 10 ** 11), (1618033989, 10 ** 9)):
                sample = LadderSample(row_with(text), load)
                shown = self.shown_far(sample)
                bounds = [0, (1, 0), 1, MOST, (1, MOST), *limit_places(sample.run), *filter(is_resistance, shown[:12])]
                for low in bounds:
                    high = drawer.random.choice(bounds)
                    told = self.check(sample, low, high, shown)
                    self.assertEqual(told.endless, shown and self.stays(sample, low, high))

    def stays(self, sample, low, high):
        """Whether the run stays within the bounds from some number on."""
        run = sample.run
        if run.limit == OPEN:
            at_end = order_of(high if isinstance(high, tuple) else (high, 1), OPEN) == 0
            return at_end and (run.goes == 1 or run.load == OPEN)
        above, below = run.limit.compare(low), -run.limit.compare(high)
        return (above > 0 or (above == 0 and run.goes <= 0)) and (below > 0 or (below == 0 and run.goes >= 0))

    def test_drawn(self):
        drawer = Drawer(22)
        for _ in range(250):
            sample = drawer.run()
            if sample.run.limit == OPEN or sample.run.limit.fraction == (0, 1):
                continue
            shown = self.shown_far(sample)
            bounds = [drawer.load(), drawer.load(), *drawer.random.sample(limit_places(sample.run), 3),
                      *filter(is_resistance, shown[:4])]
            for low in bounds:
                high = drawer.random.choice(bounds)
                told = self.check(sample, low, high, shown)
                self.assertEqual(told.endless, self.stays(sample, low, high), (sample, low, high))

    def test_runs_that_stay(self):
        for text, load in (("rail 1, rung 2", 2), ("rail 1", (1, 0)), ("rung 1", 0)):
            sample = LadderSample(row_with(text), load)
            shown = sample.shown(3)
            for low, high, told in [(0, (1, 0), ALL), (load, load, ALL), (0, load, ALL), (load, (1, 0), ALL), (1, 1, Numbers()),
                                    ((1, 0), 0, Numbers() if load != 0 else Numbers())]:
                self.assertEqual(self.check(sample, low, high, shown), told)

    def test_boxes_of_rails_and_rungs(self):
        rows = [row_with(text) for text in ("rail 1", "rail 2, rung 6", "rung 3", "rail 1, rung 1")]
        for load in (0, 3, (1, 0), 1000):
            for sense in (1, -1):
                sample = BoxSample(rows, load, sense)
                shown = sample.shown(150)
                for low, high in ((0, 4), (1, 20), (3, 3), (5, 100), ((1, 10), (1, 2)), ((1, 30), (1, 20)), (0, (1, 0)), (50, 2)):
                    self.check(sample, low, high, shown)


class LinesTest(WithinCase):
    """Rails alone and rungs alone, where bounds are reached after very many sections."""

    def test_rails(self):
        drawer = Drawer(23)
        for _ in range(300):
            step = drawer.random.randint(1, 12)
            load = drawer.random.choice([0, 1, (1, 3), (7, 2), 10 ** 9])
            run = Ladder(pattern_of((("rail", step),)), load)
            low, high = [drawer.random.choice([0, 1, 5, 10 ** 9, MOST, MOST - 1, (10 ** 12 - 1, 7), drawer.random.randrange(MOST), (1, 0)])
                         for _ in range(2)]
            start = number_of(load)
            # The least n with start + n * step >= low, and the greatest one with start + n * step <= high.
            first = None if low == OPEN else max(0, -((start - number_of(low)) // step))
            last = None if high == OPEN else (number_of(high) - start) // step
            expected = Numbers()
            if first is not None and (last is None or first <= last):
                expected = Numbers((first, last))
            self.assertEqual(within(run, low, high), expected, (step, load, low, high))

    def test_rungs(self):
        drawer = Drawer(24)
        for _ in range(300):
            ohms = drawer.random.randint(1, 12)
            load = drawer.random.choice([(1, 0), 1, (1, 3), (7, 2), 10 ** 9, (1, 10 ** 6)])
            run = Ladder(pattern_of((("rung", ohms),)), load)
            low, high = [drawer.random.choice([0, 1, (1, 5), (1, MOST), (3, MOST), (1, 10 ** 9), (drawer.random.randint(1, 99), 10 ** 11), (1, 0)])
                         for _ in range(2)]
            start = Fraction(0) if load == OPEN else 1 / number_of(load)
            inverse = [None if bound == 0 else Fraction(0) if bound == OPEN else 1 / number_of(bound) for bound in (low, high)]
            # 1 over what is shown is start + n / ohms, which must be at least 1 / high and at most 1 / low.
            first = None if inverse[1] is None else max(0, -((start - inverse[1]) * ohms // 1))
            last = None if inverse[0] is None else (inverse[0] - start) * ohms // 1
            expected = Numbers()
            if first is not None and (last is None or first <= last):
                expected = Numbers((first, last))
            self.assertEqual(within(run, low, high), expected, (ohms, load, low, high))

    def test_written_out(self):
        rail, rung = pattern_of((("rail", 1),)), pattern_of((("rung", 12),))
        self.assertEqual(within(Ladder(rail, 0), 10 ** 12, 10 ** 12), Numbers((10 ** 12, 10 ** 12)))
        self.assertEqual(within(Ladder(rail, 0), 10 ** 12, (1, 0)), Numbers((10 ** 12, None)))
        self.assertEqual(within(Ladder(rung, (1, 0)), 0, (1, 10 ** 12)), Numbers((12 * 10 ** 12, None)))
        self.assertEqual(within(Ladder(rung, (1, 0)), (1, 10 ** 12), (1, 0)), Numbers((0, 12 * 10 ** 12)))
        self.assertEqual(within(Ladder(rung, (1, 0)), 0, 0), Numbers())
        self.assertEqual(within(Ladder(rail, (1, 0)), (1, 0), (1, 0)), ALL)
        self.assertEqual(within(Ladder(rail, 0), (1, 0), (1, 0)), Numbers())


class CountOfTest(unittest.TestCase):
    def check(self, run, target, count):
        for told in (count_of(run, target), count_of(run=run, target=target), count_of(target=target, run=run)):
            self.assertEqual(told, count, (run, target))
            self.assertIs(type(told), type(count))

    def test_targets_shown_and_between(self):
        drawer = Drawer(25)
        for _ in range(150):
            sample = drawer.run()
            shown = sample.shown(12)
            for number, pair in enumerate(shown):
                if is_resistance(pair):
                    self.check(sample.run, pair, shown.index(pair))
            for pair, after in zip(shown, shown[1:]):
                if pair != after and OPEN not in (pair, after):
                    between = (pair[0] + after[0], pair[1] + after[1])
                    if is_resistance(between):
                        self.check(sample.run, between, None)

    def test_targets_never_shown(self):
        for text in MIXED:
            for load in (0, 5, (1, 0)):
                run = Ladder(pattern_of(row_with(text)), load)
                for target in (MOST, (1, MOST), *limit_places(run)):
                    pairs = run_of(row_with(text), load, 130)
                    expected = [number for number, pair in enumerate(pairs) if order_of(pair, (target, 1) if isinstance(target, int) else target) == 0]
                    self.check(run, target, expected[0] if expected else None)

    def test_after_very_many_sections(self):
        self.check(Ladder(pattern_of((("rail", 1),)), 0), 10 ** 9, 10 ** 9)
        self.check(Ladder(pattern_of((("rail", 1),)), 0), MOST, MOST)
        self.check(Ladder(pattern_of((("rail", 7),)), (1, 2)), (14 * 10 ** 9 + 1, 2), 10 ** 9)
        self.check(Ladder(pattern_of((("rail", 7),)), (1, 2)), 10 ** 9, None)
        self.check(Ladder(pattern_of((("rail", 7),)), (1, 2)), 0, None)
        self.check(Ladder(pattern_of((("rung", 12),)), (1, 0)), (12, 10 ** 9), 10 ** 9)
        self.check(Ladder(pattern_of((("rung", 5),)), 5), (5, 10 ** 9 + 1), 10 ** 9)
        self.check(Ladder(pattern_of((("rung", 5),)), 5), (10, 2 * 10 ** 9 + 1), None)
        self.check(Ladder(pattern_of((("rung", 5),)), 5), 0, None)
        self.check(Ladder(pattern_of((("rung", 5),)), 5), (1, 0), None)

    def test_runs_that_stay(self):
        self.check(Ladder(pattern_of(row_with("rail 1, rung 2")), 2), (4, 2), 0)
        self.check(Ladder(pattern_of(row_with("rail 1, rung 2")), 2), 1, None)
        self.check(Ladder(pattern_of(row_with("rail 1, rung 2")), 1), 2, None)
        self.check(Ladder(pattern_of((("rail", 1),)), (1, 0)), (1, 0), 0)
        self.check(Ladder(pattern_of((("rail", 1),)), (1, 0)), 1, None)
        self.check(Ladder(pattern_of((("rail", 1),)), 0), (1, 0), None)
        self.check(Ladder(pattern_of((("rung", 1),)), 0), (0, 7), 0)


if __name__ == "__main__":
    unittest.main()

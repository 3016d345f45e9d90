"""Runs in front of an open end with kinds that show the same there, but not in front of the resistances behind it."""

import unittest
from itertools import product

from model import ALL_PIECES, OPEN, number_of, order_of, pair_from, row_shows
from rungladders.comparing import count_of, more_load, never_more, settled, within
from rungladders.numbers import Numbers
from run_samples import MOST, BoxSample, Drawer, LadderSample, pattern_of, row_with
from test_forever import walked_forever
from test_orders import OrdersCase
from test_settled import is_near

NEARS = [2, 1, (1, 10), (1, 1000), (1, 10 ** 6)]


def rows_by_shown():
    """Rows of one to three pieces, those that show the same in front of an open end together."""
    found = {}
    rows = [row for length in (1, 2) for row in product(ALL_PIECES, repeat=length)]
    rows += list(product(ALL_PIECES, repeat=3))[::11]
    for row in rows:
        found.setdefault(row_shows(row, OPEN), []).append(row)
    return [group for group in found.values() if len(group) > 1]


GROUPS = rows_by_shown()


def drawn_boxes(seed, many):
    drawer = Drawer(seed)
    for _ in range(many):
        group = drawer.random.choice(GROUPS)
        rows = [drawer.random.choice(group) for _ in range(drawer.random.randint(2, 4))]
        if drawer.random.randrange(5) == 0:
            rows[-1] = drawer.row(3)
        yield BoxSample(rows, OPEN, drawer.random.choice((1, -1)))


def boxes_of_two():
    """Boxes of two kinds with the same a / c, of which many change their kind."""
    for texts, sense in [
        (("rung 12, rail 2", "rail 1, rung 11"), 1), (("rail 1, rung 2", "rung 3, rail 4"), -1),
        (("rail 1, rung 3, rung 6", "rung 3, rail 2, rail 3"), -1), (("rung 9, rail 1", "rail 1, rung 8"), 1),
        (("rung 4, rail 7", "rail 2, rung 2"), -1),
    ]:
        rows = [row_with(text) for text in texts]
        for order in (rows, rows[::-1]):
            for either in (sense, -sense):
                yield BoxSample(order, OPEN, either)


class ForeverFromOpenEnds(unittest.TestCase):
    def test_written_out(self):
        for texts, sense, told in [
            (("rung 12, rail 2", "rail 1, rung 11"), 1, (4, 0)), (("rail 1, rung 11", "rung 12, rail 2"), 1, (4, 1)),
            (("rail 1, rung 2", "rung 3, rail 4"), -1, (0, 1)), (("rung 3, rail 4", "rail 1, rung 2"), -1, (0, 0)),
            (("rail 1, rung 3, rung 6", "rung 3, rail 2, rail 3"), -1, (2, 0)),
            (("rail 1, rung 2", "rung 3, rail 4"), 1, (0, 0)), (("rung 3", "rail 1, rung 2"), 1, (0, 1)),
            (("rail 1, rung 2", "rung 3"), -1, (0, 1)), (("rung 3, rail 1", "rung 3", "rung 3, rail 2"), -1, (0, 1)),
        ]:
            sample = BoxSample([row_with(text) for text in texts], OPEN, sense)
            self.assertEqual(sample.run.forever(), told, sample)

    def test_boxes_of_two(self):
        for sample in boxes_of_two():
            self.assertEqual(sample.run.forever(), walked_forever(sample, 60), sample)

    def test_drawn(self):
        many = 0
        for sample in drawn_boxes(81, 400):
            told = sample.run.forever()
            self.assertEqual(told, walked_forever(sample, 60), sample)
            many += told != (0, 0)
        self.assertGreater(many, 100)


class BoundsFromOpenEnds(unittest.TestCase):
    def check(self, sample):
        run, shown = sample.run, sample.shown(60)
        if run.goes == 0:
            return
        pairs = [pair for pair in shown[:6] if max(pair) <= MOST]
        self.assertEqual([count_of(run, pair) for pair in pairs], list(range(len(pairs))), sample)
        for first, pair in enumerate(pairs):
            for last, other in enumerate(pairs):
                low, high = (pair, other) if run.goes == 1 else (other, pair)
                expected = Numbers((first, last)) if first <= last else Numbers()
                self.assertEqual(within(run, low, high), expected, (sample, low, high))
        if run.limit == OPEN or run.limit.fraction == (0, 1):
            return
        for near in NEARS:
            expected = [number for number, pair in enumerate(shown) if is_near(run.limit, pair, number_of(near))][0]
            self.assertEqual(settled(run, near), expected, (sample, near))

    def test_boxes_of_two(self):
        for sample in boxes_of_two():
            self.check(sample)

    def test_drawn(self):
        for sample in drawn_boxes(82, 200):
            self.check(sample)


class OrdersFromOpenEnds(OrdersCase):
    def test_boxes_beside_ladders_of_their_kinds(self):
        for sample in [*boxes_of_two(), *drawn_boxes(83, 120)]:
            for row in sample.rows:
                for load in (OPEN, 0, 5):
                    self.assertTrue(self.check(sample, LadderSample(row, load)))

    def test_boxes_beside_one_another(self):
        samples = [*boxes_of_two(), *drawn_boxes(84, 30)]
        for at, sample in enumerate(samples):
            self.assertTrue(self.check(sample, BoxSample(sample.rows, OPEN, -sample.sense)))
            for other in samples[at % 7::7]:
                self.check(sample, other)

    def test_ladders_that_show_the_same_at_1(self):
        drawer = Drawer(85)
        for _ in range(200):
            row, other_row = [drawer.random.choice(group) for group in [drawer.random.choice(GROUPS)] * 2]
            self.assertTrue(self.check(LadderSample(row, OPEN), LadderSample(other_row, OPEN)))
            self.check(LadderSample(row, OPEN), LadderSample(other_row, drawer.load()))


class PatternsBeforeOpenEnds(unittest.TestCase):
    """Patterns that show the same in front of an open end are told apart by the fractions below it."""

    def test_drawn(self):
        drawer = Drawer(86)
        loads = [OPEN, (0, 1), (1, 9), (1, 1), (3, 1), (10, 1), (100, 1), (10 ** 6, 1), (MOST, 1)]
        told = []
        for _ in range(600):
            row, other_row = [drawer.random.choice(group) for group in [drawer.random.choice(GROUPS)] * 2]
            pattern, other = pattern_of(row), pattern_of(other_row)
            load = more_load(pattern, other)
            told.append(never_more(pattern, other))
            self.assertIs(told[-1], load is None)
            for place in loads if load is None else [load]:
                shown, other_shown = [pair_from(row_shows(part, number_of(place))) for part in (row, other_row)]
                self.assertEqual(order_of(shown, other_shown) > 0, load is not None, (row, other_row, place))
        self.assertGreater(min(told.count(True), told.count(False)), 50)


if __name__ == "__main__":
    unittest.main()

import unittest
from fractions import Fraction

from model import number_of
from rungladders.boxes import Box
from rungladders.comparing import settled
from rungladders.errors import NoLimit
from rungladders.ladders import Ladder
from rungladders.limits import OPEN
from run_samples import MOST, Drawer, LadderSample, pattern_of, row_with

NEARS = [MOST, 10 ** 6, 100, 3, 1, (1, 2), (1, 10), (7, 1000), (1, 10 ** 6), (3, 10 ** 9), (1, 10 ** 11), (1, MOST), (2, MOST)]


def is_near(limit, pair, near):
    """Whether the pair lies at most so far from the Exact, by its equation alone."""
    if pair == OPEN:
        return False
    square, line, whole = limit.equation
    low, high = Fraction(*pair) - near, Fraction(*pair) + near
    return (low < 0 or square * low * low + line * low <= whole) and square * high * high + line * high >= whole


class SettledTest(unittest.TestCase):
    def check(self, sample):
        run = sample.run
        shown = sample.shown(130)
        for near in NEARS:
            expected = [number for number, pair in enumerate(shown) if is_near(run.limit, pair, number_of(near))][0]
            for told in (settled(run, near), settled(run=run, near=near), settled(near=near, run=run)):
                self.assertEqual(told, expected, (sample, near))
                self.assertIs(type(told), int)

    def test_ladders(self):
        for text in ("rail 1, rung 1", "rail 1, rung 2", "rung 2, rail 1", "rail 1, rung 12", "rung 3, rail 4, rung 5"):
            for load in (0, (1, 0), 2, MOST, (1618033989, 10 ** 9), (1, MOST)):
                self.check(LadderSample(row_with(text), load))

    def test_drawn(self):
        drawer = Drawer(31)
        many = 0
        while many < 80:
            sample = drawer.run()
            if sample.run.limit != OPEN and sample.run.limit.fraction != (0, 1):
                many += 1
                self.check(sample)

    def test_rungs_alone(self):
        for ohms in (1, 5, 12):
            for load in ((1, 0), 1, (7, 3), (1, 10 ** 6), MOST):
                run = Ladder(pattern_of((("rung", ohms),)), load)
                start = Fraction(0) if load == OPEN else 1 / number_of(load)
                for near in NEARS:
                    expected = max(0, -((start - 1 / number_of(near)) * ohms // 1))
                    self.assertEqual(settled(run, near), expected, (ohms, load, near))

    def test_rungs_of_boxes(self):
        box = Box(pattern_of((("rung", 12),)), pattern_of(row_with("rail 1, rung 1")))
        # This run shows open, 2, 5/3, and then takes the rung for ever: 1 over it is 3/5 + (n - 2) / 12.
        self.assertEqual(settled(box.least((1, 0)), (1, MOST)), 12 * MOST - 5)
        self.assertEqual(settled(box.least((1, MOST)), (1, MOST)), 0)

    def test_runs_that_stay(self):
        for text, load in (("rail 1, rung 2", 2), ("rung 1", 0), ("rung 2, rail 1", (2, 2))):
            for near in NEARS:
                self.assertEqual(settled(Ladder(pattern_of(row_with(text)), load), near), 0)

    def test_no_limit(self):
        rail = pattern_of((("rail", 1),))
        for run in (Ladder(rail, 0), Ladder(rail, (1, 0)), Ladder(rail, MOST), Box(rail).greatest(0), Box(rail).least((1, 0)),
                    Box(pattern_of(row_with("rail 1, rung 1")), rail).greatest(5)):
            for near in NEARS:
                with self.assertRaises(NoLimit):
                    settled(run, near)


if __name__ == "__main__":
    unittest.main()

import unittest

from model import order_of
from rungladders.comparing import alike, less
from rungladders.errors import TooMany
from rungladders.numbers import Numbers
from run_samples import MOST, BoxSample, Drawer, LadderSample, row_with

ALL = Numbers((0, None))
TEXTS = [
    "rail 1", "rail 3", "rail 1, rail 2", "rung 1", "rung 2", "rung 3, rung 6", "rail 1, rung 1", "rail 1, rung 2", "rung 4, rail 2",
    "rung 2, rail 1", "rail 1, rung 4, rail 1", "rung 6, rail 3", "rail 12, rung 12", "rail 1, rung 12", "rung 1, rail 1, rung 1",
    "rail 2, rung 3, rail 4, rung 5",
]
LOADS = [0, (1, 0), 2, (1, 3), 5, 100]


class OrdersCase(unittest.TestCase):
    def told(self, run, other):
        """The three sets, None if there are too many numbers; both ways, by position and by name."""
        calls = [lambda: less(run, other), lambda: alike(run, other), lambda: less(other, run), lambda: alike(other, run),
                 lambda: less(run=run, other=other), lambda: alike(other=other, run=run), lambda: less(run, other=other)]
        found = [self.outcome(call) for call in calls]
        if any(isinstance(outcome, TooMany) for outcome in found):
            for outcome in found:
                self.assertIs(type(outcome), TooMany)
                self.assertEqual(outcome.most, 1000)
            return None
        for outcome in found:
            self.assertIs(type(outcome), Numbers)
        low, same, high = found[:3]
        self.assertEqual(found[3:], [same, low, same, low])
        self.assertEqual(low | same | high, ALL)
        for one, other_one in ((low, same), (low, high), (same, high)):
            self.assertFalse(one & other_one)
        return low, same, high

    def outcome(self, call):
        try:
            return call()
        except TooMany as error:
            return error

    def check(self, sample, other, count=40):
        """Returns whether there were sets, which hold what the model tells."""
        told = self.told(sample.run, other.run)
        if told is None:
            return False
        low, same, high = told
        for number, (pair, other_pair) in enumerate(zip(sample.shown(count), other.shown(count))):
            order = order_of(pair, other_pair)
            self.assertEqual((number in low, number in same, number in high), (order < 0, order == 0, order > 0),
                             (sample, other, number))
        return True


class PairsTest(OrdersCase):
    def test_drawn_ladders(self):
        drawer = Drawer(1)
        told = [self.check(drawer.ladder(), drawer.ladder()) for _ in range(500)]
        self.assertGreater(sum(told), 450)

    def test_drawn_runs_of_boxes_and_ladders(self):
        drawer = Drawer(2)
        for _ in range(120):
            self.check(drawer.box_run(), drawer.ladder())
            self.check(drawer.ladder(), drawer.box_run())
            self.check(drawer.box_run(), drawer.box_run())

    def test_listed_ladders(self):
        samples = [LadderSample(row_with(text), load) for text in TEXTS for load in LOADS]
        for at, sample in enumerate(samples):
            for other in samples[at % 5::5]:
                self.check(sample, other)

    def test_one_pattern(self):
        drawer = Drawer(3)
        for _ in range(60):
            row = drawer.row()
            sample, other = LadderSample(row, drawer.load()), LadderSample(row, drawer.load())
            self.assertTrue(self.check(sample, other))
            order = order_of(sample.shown(0)[0], other.shown(0)[0])
            self.assertEqual(less(sample.run, other.run), ALL if order < 0 else Numbers())
            self.assertEqual(alike(sample.run, other.run), ALL if order == 0 else Numbers())

    def test_one_load(self):
        drawer = Drawer(4)
        for _ in range(100):
            load = drawer.load()
            self.check(LadderSample(drawer.row(), load), LadderSample(drawer.row(), load))

    def test_equal_patterns_of_other_pieces(self):
        for text, other_text in [("rung 3, rung 6", "rung 2"), ("rail 1, rail 2", "rail 3"), ("rail 1, rung 2", "rail 1, rung 4, rung 4")]:
            for load in LOADS:
                sample, other = LadderSample(row_with(text), load), LadderSample(row_with(other_text), load)
                self.assertTrue(self.check(sample, other))
                self.assertEqual(alike(sample.run, other.run), ALL)

    def test_a_run_beside_itself(self):
        drawer = Drawer(5)
        for _ in range(60):
            run = drawer.run().run
            self.assertEqual((less(run, run), alike(run, run)), (Numbers(), ALL))

    def test_boxes_of_one_kind_beside_its_ladder(self):
        drawer = Drawer(6)
        for _ in range(40):
            row, load = drawer.row(3), drawer.load()
            for sense in (1, -1):
                sample, other = BoxSample([row], load, sense), LadderSample(row, load)
                self.assertTrue(self.check(sample, other))
                self.assertEqual(alike(sample.run, other.run), ALL)

    def test_boxes_beside_ladders_of_their_kinds(self):
        drawer = Drawer(7)
        for _ in range(60):
            sample = drawer.box_run()
            for row in sample.rows:
                other = LadderSample(row, sample.load)
                told = self.told(sample.run, other.run)
                self.assertIsNotNone(told)
                self.assertFalse(told[0] if sample.sense == 1 else told[2])
                self.check(sample, other)

    def test_unlike_limits_settle_the_order(self):
        drawer = Drawer(8)
        for _ in range(150):
            sample, other = drawer.run(), drawer.run()
            told = self.told(sample.run, other.run)
            limits = [str(sample.run.limit), str(other.run.limit)]
            if told is None or limits[0] == limits[1] or "(1, 0)" in limits:
                continue
            order = sample.run.limit.order(other.run.limit)
            self.assertTrue((told[0] if order < 0 else told[2]).endless)


class WrittenOutTest(OrdersCase):
    def assert_told(self, text, load, other_text, other_load, low, same):
        run, other = LadderSample(row_with(text), load).run, LadderSample(row_with(other_text), other_load).run
        told = self.told(run, other)
        self.assertEqual((str(told[0]), str(told[1])), (low, same), (text, load, other_text, other_load))

    def test_sets(self):
        for told in [
            ("rail 1, rung 1", 5, "rail 1, rung 2", 1, "from 2", "none"),
            ("rail 1, rung 1", 0, "rail 1, rung 2", 0, "from 2", "0 to 1"),
            ("rail 1", 0, "rail 2", 0, "from 1", "0"),
            ("rail 1", 10, "rail 2", 0, "from 11", "10"),
            ("rail 2", (1, 2), "rail 1", 10, "0 to 9", "none"),
            ("rail 1", (1, 0), "rail 2", 0, "none", "none"),
            ("rail 1", (1, 0), "rail 2", (1, 0), "none", "from 0"),
            ("rail 1", 5, "rail 1", 6, "from 0", "none"),
            ("rung 1", 0, "rung 2", 0, "none", "from 0"),
            ("rung 1", (1, 0), "rung 2", (1, 0), "from 1", "0"),
            ("rung 1", 0, "rung 2", 1, "from 0", "none"),
            ("rung 2", (1, 5), "rung 1", 1, "0 to 7", "8"),
            ("rung 2", (1, 0), "rail 2", 0, "from 2", "1"),
            ("rail 1, rung 2", 2, "rail 1, rung 2", 3, "from 0", "none"),
            ("rail 1, rung 2", 2, "rung 4, rail 2", 2, "none", "from 0"),
            ("rail 1, rung 2", (1, 0), "rung 4, rail 2", (1, 0), "from 1", "0"),
            ("rail 1, rung 2", 0, "rung 4, rail 2", 0, "from 1", "0"),
            ("rail 1, rung 2", 1, "rung 4, rail 2", 3, "from 0", "none"),
        ]:
            self.assert_told(*told)

    def test_great_loads(self):
        self.assert_told("rail 1", 0, "rail 1", MOST, "from 0", "none")
        self.assert_told("rail 1, rung 1", MOST, "rail 1, rung 2", MOST - 1, "from 1", "none")


if __name__ == "__main__":
    unittest.main()

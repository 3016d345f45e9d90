import unittest

from model import box_run_of
from rungladders.boxes import Box
from rungladders.ladders import Ladder
from rungladders.patterns import Pattern
from run_samples import MOST, BoxSample, Drawer, row_with
from test_orders_late import rows_by_limit


def walked_forever(sample, count):
    """What forever tells, as far as a walk of so many sections shows it."""
    taken = box_run_of(sample.rows, sample.load, count, sample.sense)[1]
    found = []
    for index in range(len(sample.rows)):
        missed = [number for number, kinds in enumerate(taken, 1) if index not in kinds]
        found.append((missed[-1] if missed else 0, index))
    return min(found)


class ForeverTest(unittest.TestCase):
    def check(self, sample, count=60):
        told = sample.run.forever()
        self.assertEqual([type(part) for part in told], [int, int])
        self.assertIs(type(told), tuple)
        self.assertEqual(told, walked_forever(sample, count), sample)
        return told

    def test_drawn(self):
        drawer = Drawer(71)
        told = [self.check(drawer.box_run())[0] for _ in range(400)]
        self.assertGreater(sum(number > 0 for number in told), 20)

    def test_nearly_alike_kinds(self):
        drawer = Drawer(72)
        told = []
        for _ in range(200):
            row = drawer.row(3)
            rows = [row, row[::-1], drawer.row(3), tuple((word, min(12, ohms + drawer.random.randrange(2))) for word, ohms in row)]
            for sense in (1, -1):
                told.append(self.check(BoxSample(rows, drawer.load(), sense))[0])
        self.assertGreater(sum(number > 0 for number in told), 20)

    def test_kinds_with_one_limit(self):
        drawer = Drawer(73)
        for limit, rows in list(rows_by_limit().items())[::3]:
            chosen = [drawer.random.choice(rows) for _ in range(drawer.random.randint(2, 4))]
            loads = [0, (1, 0), 1, 100]
            if limit[0] == 0:
                loads += [(limit[2], limit[1]), (limit[2] * 10 ** 6 + 1, limit[1] * 10 ** 6), (limit[2] * 10 ** 6 - 1, limit[1] * 10 ** 6)]
            for sense in (1, -1):
                self.check(BoxSample(chosen, drawer.random.choice(loads), sense))

    def test_rails_and_rungs_alone(self):
        drawer = Drawer(74)
        for _ in range(120):
            rows = [drawer.row_of("rail"), drawer.row_of("rung"), drawer.row(3), drawer.row(4)]
            drawer.random.shuffle(rows)
            for sense in (1, -1):
                self.check(BoxSample(rows[:drawer.random.randint(2, 4)], drawer.load(), sense), 130)

    def test_late(self):
        # A line rises slowly to where the other kind shows less; rungs fall slowly to where the other one shows more.
        for texts, load, sense, least in [
            (("rail 1", "rail 12, rail 12, rail 12, rung 12"), 0, -1, 30), (("rail 12, " * 7 + "rung 12", "rail 1"), (1, 7), -1, 80),
            (("rung 12", "rung 1, " * 7 + "rail 1"), (1, 0), 1, 80), (("rung 1, rung 1, rail 1", "rung 11", "rung 12"), MOST, 1, 20),
            (("rail 1", "rail 12, rung 12, rail 12, rung 12"), 0, 1, 2),
        ]:
            number, index = self.check(BoxSample([row_with(text) for text in texts], load, sense), 160)
            self.assertGreaterEqual(number, least)

    def test_runs_that_stay(self):
        stairs, other = Pattern.read("rail 1, rung 2"), Pattern.read("rung 4, rail 2")
        rail, rung = Pattern(("rail", 1)), Pattern(("rung", 1))
        for box, load, high, low in [
            (Box(stairs, other), 2, (0, 0), (0, 0)), (Box(rung, other, stairs), 2, (0, 1), None), (Box(rail, rail), (1, 0), (0, 0), (0, 0)),
            (Box(stairs, Pattern(("rail", 2)), rail), (1, 0), (0, 1), None), (Box(rung, Pattern(("rung", 2))), 0, (0, 0), (0, 0)),
            (Box(rail, rung), 0, None, (0, 1)), (Box(Pattern(("rung", 2)), rung), 0, (0, 0), (0, 0)),
        ]:
            for run, told in ((box.greatest(load), high), (box.least(load), low)):
                if told is not None:
                    self.assertEqual((run.goes, run.forever()), (0, told))

    def test_alike_and_equal_kinds(self):
        golden, stairs = Pattern.read("rail 1, rung 1"), Pattern.read("rail 1, rung 2")
        equal = Pattern.read("rail 1, rung 4, rung 4")
        self.assertEqual(Box(golden, equal, stairs).greatest(0).forever(), (0, 1))
        self.assertEqual(Box(golden, stairs, equal).greatest(0).forever(), (0, 1))
        self.assertEqual(Box(golden, golden, golden).least(0).forever(), (0, 0))
        # All kinds show the same in front of 0, so the first one is taken there, but the second one for ever.
        self.assertEqual(Box(golden, stairs).greatest(0).order(4), (1, 1, 1, 0))
        self.assertEqual(Box(golden, stairs).greatest(0).forever(), (0, 1))

    def test_asked_again(self):
        run = Box(Pattern.read("rail 1, rung 1"), Pattern.read("rung 3")).least(MOST)
        self.assertEqual([run.forever(), run(3), run.forever(), run.order(2), run.forever()],
                         [run.forever(), run(3), run.forever(), run.order(2), run.forever()])

    def test_it_is_a_ladder_from_there_on(self):
        drawer = Drawer(75)
        for _ in range(60):
            sample = drawer.box_run()
            number, index = sample.run.forever()
            start = sample.run(number)
            if max(start) <= MOST:
                ladder = Ladder(sample.run.box.kinds[index], start)
                self.assertEqual(list(ladder.opening(20)), list(sample.run.opening(number + 20))[number:])


if __name__ == "__main__":
    unittest.main()

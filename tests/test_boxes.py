import inspect
import unittest
from itertools import islice, product

from model import box_run_of, number_of, order_of, pair_from, row_shows
from rungladders.boxes import Box, Greatest, Least
from rungladders.errors import InvalidCount, InvalidKinds, InvalidResistance
from rungladders.exact import Exact
from rungladders.ladders import Ladder
from rungladders.limits import OPEN
from rungladders.patterns import Pattern
from run_samples import MOST, BoxSample, Drawer, pattern_of, row_with
from samples import NO_COUNTS, NO_INTEGERS, NO_PIECES, NO_RESISTANCES, others_than

GOLDEN, RAIL, RUNG = Pattern(("rail", 1), ("rung", 1)), Pattern(("rail", 2)), Pattern(("rung", 3))


class BoxTest(unittest.TestCase):
    def test_the_very_kinds(self):
        for kinds in ((GOLDEN,), (GOLDEN, RAIL), (RAIL, RAIL, RAIL), (RUNG, GOLDEN, RAIL, RUNG), (GOLDEN + GOLDEN + GOLDEN,)):
            box = Box(*kinds)
            self.assertIs(type(box.kinds), tuple)
            self.assertEqual([id(kind) for kind in box.kinds], [id(kind) for kind in kinds])
            self.assertEqual(len(box), len(kinds))
            self.assertIs(bool(box), True)

    def test_wrong_kinds(self):
        for value in [*NO_INTEGERS, *NO_RESISTANCES, *NO_PIECES, 0, ("rail", 1), "rail 1", Pattern, Ladder(GOLDEN, 0), [GOLDEN], (GOLDEN,)]:
            for kinds, index in [((value,), 0), ((value, GOLDEN), 0), ((GOLDEN, value), 1), ((GOLDEN, RAIL, value, value), 2),
                                 ((GOLDEN, RAIL, RUNG, value), 3), ((GOLDEN, RAIL, RUNG, GOLDEN, value), None), ((value,) * 5, None)]:
                with self.assertRaises(InvalidKinds) as context:
                    Box(*kinds)
                self.assertEqual(context.exception.index, index)

    def test_no_kinds_and_too_many(self):
        for kinds in ((), (GOLDEN,) * 5, (GOLDEN,) * 9):
            with self.assertRaises(InvalidKinds) as context:
                Box(*kinds)
            self.assertIsNone(context.exception.index)

    def test_equal_only_to_itself(self):
        box = Box(GOLDEN)
        run = box.greatest(0)
        for value, others in ((box, [Box(GOLDEN), GOLDEN, run]), (run, [box.greatest(0), box.least(0), Ladder(GOLDEN, 0), box])):
            self.assertIs(value == value, True)
            for other in others + others_than(Box):
                self.assertIs(value == other, False)
                self.assertIs(value != other, True)
        self.assertIs(bool(run), True)


def best_of_all_orders(rows, load, count, sense):
    """The best pair that any `count` rows show, each order tried."""
    best = None
    for order in product(range(len(rows)), repeat=count):
        number = number_of(load)
        for at in reversed(order):
            number = row_shows(rows[at], number)
        pair = pair_from(number)
        if best is None or sense * order_of(pair, best) > 0:
            best = pair
    return best


class RunsTest(unittest.TestCase):
    def test_all_orders(self):
        drawer = Drawer(61)
        for longest, most_kinds in ((6, 2), (4, 3), (3, 4)):
            for _ in range(8):
                sample = drawer.box_run(most_kinds)
                for count in range(longest + 1):
                    self.assertEqual(sample.run(count), best_of_all_orders(sample.rows, sample.load, count, sample.sense))

    def test_walk_to_100(self):
        drawer = Drawer(62)
        for _ in range(40):
            sample = drawer.box_run()
            expected = sample.shown(100)
            self.assertEqual([sample.run(count) for count in (0, 1, 2, 3, 17, 99, 100)], [expected[at] for at in (0, 1, 2, 3, 17, 99, 100)])
            self.assertEqual(list(sample.run.opening(100)), expected[:100])
            self.assertEqual([type(part) for part in sample.run(7)], [int, int])

    def test_each_count(self):
        for sense in (1, -1):
            sample = BoxSample([row_with("rail 1, rung 1"), row_with("rung 2"), row_with("rail 1, rung 2")], 3, sense)
            expected, taken = box_run_of(sample.rows, 3, 100, sense)
            for count in range(101):
                self.assertEqual(sample.run(count), expected[count])
                self.assertEqual(sample.run(count=count), expected[count])
                self.assertEqual(list(sample.run.opening(count)), expected[:count])
                self.assertEqual(list(sample.run.opening(count=count)), expected[:count])
                self.assertEqual(sample.run.order(count), tuple(kinds[0] for kinds in taken[:count])[::-1])
                self.assertEqual(sample.run.order(count=count), sample.run.order(count))

    def test_openings_side_by_side(self):
        run = Box(GOLDEN, RUNG).greatest(0)
        expected = [run(count) for count in range(10)]
        first = run.opening(10)
        self.assertTrue(inspect.isgenerator(first))
        self.assertEqual(list(islice(first, 4)), expected[:4])
        self.assertEqual(list(zip(run.opening(5), run.opening(5))), [(pair, pair) for pair in expected[:5]])
        self.assertEqual(list(first), expected[4:])

    def test_order_shows_what_is_told(self):
        drawer = Drawer(63)
        for _ in range(100):
            sample = drawer.box_run()
            for count in (0, 1, 2, 5, 20):
                order = sample.run.order(count)
                self.assertIs(type(order), tuple)
                number = number_of(sample.load)
                for at in reversed(order):
                    number = row_shows(sample.rows[at], number)
                self.assertEqual(pair_from(number), sample.run(count))
                taken = box_run_of(sample.rows, sample.load, count, sample.sense)[1]
                self.assertEqual(order, tuple(kinds[0] for kinds in reversed(taken)))
            self.assertEqual(sample.run.order(21)[1:], sample.run.order(20))

    def test_least_index_of_kinds_that_are_alike(self):
        half = Pattern(("rung", 6), ("rung", 6))
        self.assertEqual(Box(RUNG, half, GOLDEN).least(5).order(4), (0, 0, 0, 2))
        self.assertEqual(Box(half, RUNG).least(5).order(3), (0, 0, 0))
        self.assertEqual(Box(GOLDEN, RUNG, half).least(5).order(3), (1, 1, 0))
        self.assertEqual(Box(RAIL, Pattern(("rail", 3))).greatest((1, 0)).order(3), (0, 0, 0))
        self.assertEqual(Box(GOLDEN, Pattern(("rail", 1), ("rung", 2))).greatest(0).order(3), (1, 1, 0))


class PropertiesTest(unittest.TestCase):
    def test_goes(self):
        drawer = Drawer(64)
        for _ in range(200):
            sample = drawer.box_run()
            expected = sample.shown(12)
            self.assertEqual({order_of(after, before) for before, after in zip(expected, expected[1:])}, {sample.run.goes})
            self.assertIs(type(sample.run.goes), int)

    def test_limit(self):
        drawer = Drawer(65)
        for _ in range(200):
            sample = drawer.box_run()
            limits = [Ladder(pattern_of(row), sample.load).limit for row in sample.rows]
            ends = [limit for limit in limits if limit == OPEN]
            numbers = [limit for limit in limits if limit != OPEN]
            if sample.sense == 1 and ends or not numbers:
                self.assertEqual(sample.run.limit, OPEN)
            else:
                self.assertIs(type(sample.run.limit), Exact)
                self.assertIn(sample.run.limit, numbers)
                for limit in numbers:
                    self.assertGreaterEqual(sample.sense * sample.run.limit.order(limit), 0)

    def test_limit_is_come_near_to(self):
        drawer = Drawer(66)
        for _ in range(60):
            sample = drawer.box_run()
            if sample.run.limit == OPEN:
                self.assertGreater(sample.run(100)[0], 99 * sample.run(100)[1])
            elif sample.run.limit.fraction != (0, 1):
                near = sample.run.limit.floor(10 ** 9)
                low, high = (near - 1, 10 ** 9), (near + 2, 10 ** 9)
                self.assertEqual((order_of(low, sample.run(100)), order_of(sample.run(100), high)), (-1, -1))

    def test_greatest_runs_that_rise_for_ever_and_least_that_fall_to_0(self):
        box = Box(GOLDEN, RUNG, RAIL)
        high, low = box.greatest(0), box.least(100)
        self.assertEqual((high.limit, high.goes, high(100), high.forever()), ((1, 0), 1, (200, 1), (0, 2)))
        self.assertEqual((low.limit.fraction, low.goes, low.forever()), ((0, 1), -1, (1, 1)))
        self.assertEqual(low(2), (pair_from(row_shows(RUNG.pieces, row_shows(GOLDEN.pieces, number_of(100))))))
        self.assertEqual((box.greatest((1, 0)).goes, box.greatest((1, 0)).limit, box.greatest((1, 0))(50)), (0, (1, 0), (1, 0)))
        self.assertEqual((box.least(0).goes, str(box.least(0).limit), box.least(0)(50)), (0, "0", (0, 1)))

    def test_box_load_and_class(self):
        box = Box(GOLDEN, RUNG)
        for load, told in ((0, (0, 1)), ((6, 4), (3, 2)), ((1, 0), (1, 0)), (MOST, (MOST, 1)), ((0, 9), (0, 1))):
            for run, kind in ((box.greatest(load), Greatest), (box.least(load), Least), (box.greatest(load=load), Greatest),
                              (box.least(load=load), Least)):
                self.assertIs(type(run), kind)
                self.assertIs(run.box, box)
                self.assertEqual(run.load, told)
                self.assertEqual(run(0), told)
                self.assertEqual(run.order(0), ())

    def test_properties_are_not_assigned(self):
        box = Box(GOLDEN)
        with self.assertRaises(AttributeError):
            box.kinds = ()
        for run in (box.greatest(0), box.least(0)):
            for name in ("goes", "limit", "load", "box"):
                with self.assertRaises(AttributeError):
                    setattr(run, name, 1)


class RefusedTest(unittest.TestCase):
    def test_no_resistance(self):
        box = Box(GOLDEN, RUNG)
        for value in [*NO_RESISTANCES, box, GOLDEN]:
            for call in (lambda: box.greatest(value), lambda: box.least(value), lambda: box.greatest(load=value),
                         lambda: box.least(load=value)):
                with self.assertRaises(InvalidResistance) as context:
                    call()
                self.assertIs(context.exception.given, value)

    def test_no_count(self):
        box = Box(GOLDEN, RUNG)
        for run in (box.greatest(1), box.least(1), box.least(0)):
            for value in [*NO_COUNTS, run, box]:
                for call in (lambda: run(value), lambda: run(count=value), lambda: next(run.opening(value)), lambda: run.order(value),
                             lambda: list(run.opening(count=value)), lambda: run.order(count=value)):
                    with self.assertRaises(InvalidCount) as context:
                        call()
                    self.assertIs(context.exception.given, value)


if __name__ == "__main__":
    unittest.main()

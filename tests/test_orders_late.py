"""Orders that change late: TooMany just where the order is not one and the same from 1000 on."""

import unittest
from fractions import Fraction
from itertools import product

from model import ALL_PIECES, fast_run_of, order_of
from rungladders.comparing import less
from rungladders.ladders import Ladder
from rungladders.limits import OPEN
from rungladders.numbers import Numbers
from run_samples import MOST, BoxSample, Drawer, LadderSample, pattern_of, row_with
from test_orders import OrdersCase

MEETINGS = [
    0, Fraction(1, 2), 1, 7, Fraction(15, 2), 500, 998, Fraction(1997, 2), 999, Fraction(1999, 2), Fraction(2999, 3),
    1000, Fraction(2001, 2), Fraction(3001, 3), 1001, 1002, 5000, 10 ** 6, 10 ** 9, Fraction(2 * 10 ** 9 + 1, 2), -1, -1000,
]


def pair_of(fraction):
    return (fraction.numerator, fraction.denominator)


class LinesTest(OrdersCase):
    """Lines a + n * p and b + n * q, as rails show them, and as 1 over what rungs show."""

    def check_lines(self, run, other, first, second, rising):
        """`first` and `second` are pairs (start, step); `rising` is 1 if the runs show the lines, -1 if 1 over them."""
        told = self.told(run, other)
        start, step = second[0] - first[0], second[1] - first[1]
        orders = [rising * ((start + number * step < 0) - (start + number * step > 0)) for number in range(1001)]
        final = rising * ((step < 0) - (step > 0)) if step != 0 else orders[-1]
        self.assertEqual(told is None, orders[-1] != final, (first, second))
        if told is not None:
            for number, order in enumerate(orders):
                self.assertEqual([number in numbers for numbers in told], [order < 0, order == 0, order > 0])
            for numbers, order in zip(told, (-1, 0, 1)):
                self.assertEqual(numbers.endless, order == final)

    def test_rails(self):
        for step, other_step in ((1, 2), (5, 2), (12, 1), (3, 3), (24, 23)):
            for meeting in MEETINGS:
                for start in (Fraction(0), Fraction(7, 3)):
                    other_start = start + meeting * (step - other_step)
                    if other_start < 0:
                        start, other_start = start - other_start, Fraction(0)
                    rows = [(("rail", 12), ("rail", step - 12)) if step > 12 else (("rail", step),),
                            (("rail", 12), ("rail", other_step - 12)) if other_step > 12 else (("rail", other_step),)]
                    self.check_lines(Ladder(pattern_of(rows[0]), pair_of(start)), Ladder(pattern_of(rows[1]), pair_of(other_start)),
                                     (start, step), (other_start, other_step), 1)

    def test_rungs(self):
        for ohms, other_ohms in ((1, 2), (12, 11), (3, 12), (4, 4)):
            step, other_step = Fraction(1, ohms), Fraction(1, other_ohms)
            for meeting in MEETINGS:
                start = Fraction(1, 5)
                other_start = start + meeting * (step - other_step)
                if other_start <= 0:
                    start, other_start = start - other_start + Fraction(1, 7), Fraction(1, 7)
                run, other = [Ladder(pattern_of((("rung", part),)), pair_of(1 / begin))
                              for part, begin in ((ohms, start), (other_ohms, other_start))]
                self.check_lines(run, other, (start, step), (other_start, other_step), -1)

    def test_rungs_in_front_of_open_ends(self):
        for meeting in (1, 999, Fraction(1999, 2), 1000, 1001, 10 ** 9):
            run, other = Ladder(pattern_of((("rung", 2),)), (1, 0)), Ladder(pattern_of((("rung", 4),)), pair_of(4 / Fraction(meeting)))
            self.check_lines(run, other, (0, Fraction(1, 2)), (Fraction(meeting) / 4, Fraction(1, 4)), -1)

    def test_rails_that_meet_written_out(self):
        for load, told in ((999, "0 to 998"), (1000, None), (1001, None), ((1999, 2), "0 to 999"), ((2001, 2), None), (MOST, None)):
            run, other = Ladder(pattern_of((("rail", 2),)), 0), Ladder(pattern_of((("rail", 1),)), load)
            sets = self.told(run, other)
            self.assertEqual(sets and str(sets[0]), told)

    def test_boxes_of_rails_and_of_rungs(self):
        for load, late in ((990, False), (1000, True), (1010, True)):
            for row, other_row, sense in (((("rail", 2),), (("rail", 1),), 1), ((("rung", 1),), (("rung", 2),), -1)):
                start = 0 if sense == 1 else (1, 0)
                other_load = load if sense == 1 else (2, load)
                sample = BoxSample([other_row, row, (("rail", 1), ("rung", 1))], start, sense)
                told = self.told(sample.run, Ladder(pattern_of(other_row), other_load))
                self.assertEqual(told is None, late, (load, sense))

    def test_rails_beside_all_others(self):
        drawer = Drawer(11)
        for _ in range(60):
            rails, rungs, mixed = drawer.row_of("rail"), drawer.row_of("rung"), drawer.row() + (("rail", 1), ("rung", 1))
            rail_sample = LadderSample(rails, drawer.random.randrange(20))
            rung_sample = LadderSample(rungs, drawer.random.choice([(1, 0), 3, 100, MOST]))
            mixed_sample = LadderSample(mixed, drawer.load())
            self.assertTrue(self.check(rail_sample, rung_sample, 60))
            self.assertTrue(self.check(rail_sample, mixed_sample, 60))
            self.assertTrue(self.check(mixed_sample, rung_sample, 60))


def rows_by_limit():
    """Rows of two and three pieces, one for each pattern, by the limit of their ladders."""
    found = {}
    for length in (2, 3):
        for row in product(ALL_PIECES, repeat=length):
            if len({word for word, _ in row}) == 2:
                pattern = pattern_of(row)
                found.setdefault(Ladder(pattern, 0).limit.equation, {}).setdefault(pattern.numbers, row)
    return {limit: list(rows.values()) for limit, rows in found.items() if len(rows) > 1}


class OneLimitTest(OrdersCase):
    GROUPS = rows_by_limit()

    def loads_for(self, limit):
        square, line, whole = limit
        if square != 0:
            near = Ladder(pattern_of(self.GROUPS[limit][0]), 0).limit.floor(10 ** 9)
            return [0, 1, (1, 0), 100, (near, 10 ** 9), (near + 1, 10 ** 9), (near // 10 ** 6, 1000)]
        great = 10 ** 9
        return [0, (1, 0), 1, 100, (whole, line), (whole * great + 1, line * great), (whole * great - 1, line * great),
                (whole * 1000 + 1, line * 1000), (whole * 1000 - 1, line * 1000)]

    def test_one_limit(self):
        drawer = Drawer(12)
        self.assertGreater(len(self.GROUPS), 300)
        for limit, rows in self.GROUPS.items():
            loads = self.loads_for(limit)
            for _ in range(4):
                row, other_row = drawer.random.sample(rows, 2)
                sample = LadderSample(row, drawer.random.choice(loads))
                self.assertTrue(self.check(sample, LadderSample(other_row, drawer.random.choice(loads))))

    def test_one_limit_and_one_rate(self):
        drawer = Drawer(13)
        many = 0
        for limit, rows in self.GROUPS.items():
            loads = self.loads_for(limit)
            rates = {}
            for row in rows:
                four = [Fraction(*pair) for pair in pattern_of(row).numbers]
                rates.setdefault(four[0] + four[3], []).append(row)
            for row, *others in rates.values():
                for other_row in others:
                    many += 1
                    for load in loads:
                        sample = LadderSample(row, load)
                        self.assertTrue(self.check(sample, LadderSample(other_row, drawer.random.choice(loads))))
        self.assertGreater(many, 40)

    def test_one_rate_and_nearly_one_pull(self):
        """Loads for which the final order hangs on very little, and comes late or never."""
        for limit, rows in self.GROUPS.items():
            rates = {}
            for row in rows if limit[0] == 0 else ():
                a, b, c, d = [Fraction(*pair) for pair in pattern_of(row).numbers]
                # 1 over the distance of both numbers that the pattern leaves as they are.
                rates.setdefault(a + d, []).append((row, c / (2 * c * Fraction(limit[2], limit[1]) + d - a)))
            for (row, rest), *others in rates.values():
                for other_row, other_rest in others:
                    self.check_pulls(Fraction(limit[2], limit[1]), row, rest, other_row, other_rest)

    def check_pulls(self, limit, row, rest, other_row, other_rest):
        for load in (Fraction(0), limit / 2, limit + 1, limit + 7, OPEN):
            pull = (0 if load == OPEN else 1 / (load - limit)) + rest
            if pull == other_rest:
                continue
            other_load = limit + 1 / (pull - other_rest)
            side = 1 if load == OPEN else load - limit
            if other_load < 0 or (other_load - limit) * side < 0:
                continue
            pair = OPEN if load == OPEN else pair_of(load)
            for step in (0, Fraction(1, 100), Fraction(-1, 100), Fraction(1, 10 ** 6), Fraction(-1, 10 ** 6)):
                other_pair = pair_of(max(Fraction(0), other_load + step))
                if max(other_pair) <= MOST:
                    self.assertTrue(self.check(LadderSample(row, pair), LadderSample(other_row, other_pair)))
            if max(pair_of(other_load)) <= MOST:
                told = self.told(Ladder(pattern_of(row), pair), Ladder(pattern_of(other_row), pair_of(other_load)))
                self.assertEqual(sorted(map(str, told)), ["from 0", "none", "none"])

    def test_orders_that_change_twice(self):
        for text, load, other_text, other_load, told in [
            ("rung 2, rung 4, rail 3", 14, "rung 3, rail 1, rung 1", 30, "0, from 2"), ("rail 5, rung 4, rung 5", 1, "rung 12, rail 11, rung 10", 0, "1"),
        ]:
            sample, other = LadderSample(row_with(text), load), LadderSample(row_with(other_text), other_load)
            self.assertTrue(self.check(sample, other))
            self.assertEqual(str(less(sample.run, other.run)), told)

    def test_boxes_whose_kind_changes(self):
        for texts, load, sense, other_text, other_load, told in [
            (("rail 6, rung 2, rail 2", "rail 1"), (29, 7), -1, "rail 4, rung 7", 0, "2 to 3"),
            (("rail 4, rung 5, rail 8", "rail 6, rung 2, rail 10", "rail 1"), 2, -1, "rail 2, rung 10, rail 6", 1, "1 to 10"),
            (("rail 2, rung 1, rung 8", "rail 1"), 1, -1, "rung 8, rung 10, rail 4", 0, "1"),
            (("rail 2, rung 3, rail 10", "rung 12"), 21, 1, "rung 7, rail 8", 100, "0, from 2"),
            (("rail 10, rung 7, rail 10", "rail 2"), 7, -1, "rail 8, rung 11, rail 8", 0, "1 to 10"),
        ]:
            sample, other = BoxSample([row_with(text) for text in texts], load, sense), LadderSample(row_with(other_text), other_load)
            self.assertTrue(self.check(sample, other))
            self.assertEqual(str(less(sample.run, other.run)), told)

    def test_many_times_over(self):
        for text in ("rail 1, rung 1", "rail 1, rung 2", "rung 6, rail 3", "rail 1, rung 12", "rail 3, rung 4", "rung 2, rail 9"):
            row = row_with(text)
            limit = Ladder(pattern_of(row), 0).limit.equation
            loads = [load for load in ([0, 1, (1, 0), 7, (10 ** 12, 3)] if limit[0] else
                                       [0, (1, 0), (limit[2], limit[1]), (limit[2] * 10 ** 8 + 1, limit[1] * 10 ** 8)])]
            for times in (2, 3):
                for load in loads:
                    for other_load in loads:
                        self.assertTrue(self.check(LadderSample(row, load), LadderSample(row * times, other_load)))

    def test_runs_of_boxes(self):
        drawer = Drawer(14)
        for limit, rows in list(self.GROUPS.items())[::6]:
            loads = self.loads_for(limit)
            for sense in (1, -1):
                sample = BoxSample(drawer.random.sample(rows, 2), drawer.random.choice(loads), sense)
                other = LadderSample(drawer.random.choice(rows), drawer.random.choice(loads))
                other_box = BoxSample(drawer.random.sample(rows, 2), drawer.random.choice(loads), -sense)
                self.assertTrue(self.check(sample, other))
                self.assertTrue(self.check(sample, other_box))

    SLOW, FAST = row_with("rung 8, rung 10, rail 2, rung 9"), row_with("rung 6, rail 1, rung 6, rail 1")

    def test_orders_that_change_late(self):
        many = {True: 0, False: 0}
        for load in ((MOST, MOST // 2 - 1), (MOST - 1, MOST // 2), (2 * 10 ** 9 + 1, 10 ** 9), (2 * 10 ** 8 - 1, 10 ** 8), 2):
            slow = fast_run_of(self.SLOW, load, 1300)
            for other_load in (0, 1, 2, (21, 10), 3, (1, 0)):
                fast = fast_run_of(self.FAST, other_load, 1300)
                orders = [order_of(pair, other_pair) for pair, other_pair in zip(slow, fast)]
                told = self.told(Ladder(pattern_of(self.SLOW), load), Ladder(pattern_of(self.FAST), other_load))
                settled = len(set(orders[1000:])) == 1
                many[settled] += 1
                self.assertEqual(told is not None, settled, (load, other_load))
                if settled:
                    for number, order in enumerate(orders):
                        self.assertEqual([number in numbers for numbers in told], [order < 0, order == 0, order > 0])
        self.assertGreater(min(many.values()), 2)

    def test_written_out(self):
        run = Ladder(pattern_of(self.SLOW), (2 * 10 ** 9 + 1, 10 ** 9))
        self.assertEqual(less(run, Ladder(pattern_of(self.FAST), 3)), Numbers((0, 826)))


if __name__ == "__main__":
    unittest.main()

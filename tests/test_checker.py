import unittest
from itertools import product

from model import number_of, order_of, pair_from, row_shows, run_of
from rungladders.boxes import Box
from rungladders.checker import accepts
from rungladders.comparing import more_load
from rungladders.ladders import Ladder
from rungladders.limits import OPEN
from rungladders.numbers import Numbers
from rungladders.patterns import Pattern
from run_samples import BoxSample, Drawer, LadderSample, pattern_of, row_with
from samples import NO_COUNTS, NO_INTEGERS, NO_PIECES, NO_RESISTANCES, EqualsAll, EqualsNothing, deep_tuple

GOLDEN, STAIRS, LINE, RUNG = [row_with(text) for text in ("rail 1, rung 1", "rail 1, rung 2", "rail 2", "rung 3")]
LONG = row_with("rail 1, rung 2, rail 3, rung 4, rail 5, rung 6, rail 7, rung 8")
HUGE = 10 ** 300

RIGHT = [
    (("value", GOLDEN, 0, 2, (3, 2)), ()), (("value", GOLDEN, (1, 0), 0, (1, 0)), ()), (("value", LINE, 1, 100, 201), ()),
    (("value", LONG, 0, 0, 0), ()), (("value", LINE, (1, 0), 7, (1, 0)), ()),
    (("most", GOLDEN, 0, 2), 2), (("most", GOLDEN, 0, 2), (17, 10)), (("most", LINE, 5, (1, 0)), (1, 0)), (("most", RUNG, 5, 5), (5, 1)),
    (("least", GOLDEN, 2, (3, 2)), (3, 2)), (("least", LINE, 5, 5), 5), (("least", RUNG, 5, 0), 0), (("least", LINE, (1, 0), 7), (1, 0)),
    (("apart", GOLDEN, 5, STAIRS, 1, 2), (17, 10)), (("apart", STAIRS, 0, STAIRS, 3, 0), 2), (("apart", RUNG, 1, LINE, 1, 1), 1),
    (("apart", RUNG, 0, RUNG, 1, 5), 0), (("apart", LINE, 1, LINE, (1, 0), 3), (1, 0)),
    (("never", GOLDEN, STAIRS), ()), (("never", LONG, LONG), ()), (("never", RUNG, LINE), ()),
    (("more", STAIRS, GOLDEN, 1), ()), (("more", LINE, GOLDEN, (1, 0)), ()), (("more", STAIRS, GOLDEN, (1, HUGE)), ()),
    (("limit", GOLDEN, 7, (1, -1, 1)), ()), (("limit", STAIRS, (1, 0), (0, 1, 2)), ()), (("limit", LINE, 0, (1, 0)), ()), (("limit", RUNG, 3, (0, 1, 0)), ()),
    (("greatest", (GOLDEN, RUNG, STAIRS), 0, 3, (21, 11)), (2, 2, 0)), (("greatest", (GOLDEN,), 5, 0, 5), ()),
    (("least of all", (GOLDEN, RUNG, STAIRS), 3, 1, (3, 2)), (1,)), (("least of all", (LONG, LONG, LONG, LONG), 0, 0, 0), ()),
]


class RightTest(unittest.TestCase):
    def assert_told(self, claim, certificate, told):
        for found in (accepts(claim, certificate), accepts(claim=claim, certificate=certificate), accepts(certificate=certificate, claim=claim)):
            self.assertIs(found, told, (claim, certificate))

    def test_listed(self):
        for claim, certificate in RIGHT:
            self.assert_told(claim, certificate, True)

    def test_values(self):
        drawer = Drawer(81)
        for _ in range(60):
            row, load = drawer.row(8), drawer.load()
            shown = run_of(row, load, 100)
            for count in (0, 1, 2, 5, 99, 100):
                top, bottom = shown[count]
                self.assert_told(("value", row, load, count, (top, bottom)), (), True)
                if bottom == 1:
                    self.assert_told(("value", row, load, count, top), (), True)
                if bottom != 0:
                    self.assert_told(("value", row, load, count, (top * HUGE, bottom * HUGE)), (), True)
                    self.assert_told(("value", row, load, count, (top * HUGE + 1, bottom * HUGE)), (), False)
                    self.assert_told(("value", row, load, count, (1, 0)), (), False)
                self.assert_told(("value", row, load, count, (top + 1, bottom + 1)), (), top == bottom)

    def test_bounds(self):
        drawer = Drawer(82)
        found = []
        for _ in range(600):
            row, load, bound = drawer.row(3), drawer.load(), drawer.load()
            certificate = drawer.random.choice([drawer.load(), bound, load])
            shown = run_of(row, load, 30)
            number, pair = number_of(certificate), pair_from(number_of(certificate))
            back = pair_from(row_shows(row, number))
            for word, sense in (("most", 1), ("least", -1)):
                good = all(sense * order_of(*pairs) <= 0 for pairs in (
                    (pair, pair_from(number_of(bound))), (shown[0], pair), (back, pair)))
                self.assert_told((word, row, load, bound), certificate, good)
                found.append(good)
                if good:
                    for seen in shown:
                        self.assertLessEqual(sense * order_of(seen, pair_from(number_of(bound))), 0)
        self.assertGreater(sum(found), 50)

    def test_certificates_in_other_terms(self):
        for scale in (1, 2, 7, HUGE):
            self.assert_told(("most", STAIRS, 0, 2), (2 * scale, scale), True)
            self.assert_told(("most", STAIRS, 0, 2), (2 * scale + 1, scale), False)
            self.assert_told(("most", STAIRS, 0, (4, 2)), (2 * scale, scale), True)
            self.assert_told(("most", STAIRS, 0, 3), (2 * HUGE * scale - 1, scale * HUGE), False)
            self.assert_told(("most", STAIRS, 0, 3), (2 * HUGE * scale + 1, scale * HUGE), True)
            self.assert_told(("least", STAIRS, 3, 2), (2 * scale, scale), True)
            self.assert_told(("apart", STAIRS, 0, STAIRS, 3, 0), (2 * scale, scale), True)
            self.assert_told(("more", STAIRS, GOLDEN, (scale, scale * HUGE)), (), True)

    def test_apart(self):
        drawer = Drawer(83)
        found = []
        for _ in range(1500):
            row, other_row, load, other_load = drawer.row(3), drawer.row(3), drawer.load(), drawer.load()
            count = drawer.random.randrange(4)
            below, above = run_of(row, load, count + 25), run_of(other_row, other_load, count + 25)
            certificate = drawer.random.choice([drawer.load(), below[count], above[count]])
            number = number_of(certificate)
            pair = pair_from(number)
            orders = order_of(below[count], pair), order_of(above[count], pair)
            good = orders[0] <= 0 <= orders[1] and orders != (0, 0)
            good = good and order_of(pair_from(row_shows(row, number)), pair) <= 0 <= order_of(pair_from(row_shows(other_row, number)), pair)
            self.assert_told(("apart", row, load, other_row, other_load, count), certificate, good)
            found.append(good)
            if good:
                for pairs in zip(below[count:], above[count:]):
                    self.assertEqual(order_of(*pairs), -1)
        self.assertGreater(sum(found), 30)

    def test_never_and_more(self):
        drawer = Drawer(84)
        for _ in range(300):
            row, other_row = drawer.row(8), drawer.row(8)
            load = more_load(pattern_of(row), pattern_of(other_row))
            self.assert_told(("never", row, other_row), (), load is None)
            for probe in (0, 1, (1, 0), (3, 7), load):
                if probe is not None:
                    more = order_of(*[pair_from(row_shows(part, number_of(probe))) for part in (row, other_row)]) > 0
                    self.assert_told(("more", row, other_row, probe), (), more)

    def test_limits(self):
        drawer = Drawer(85)
        for _ in range(300):
            row, load = drawer.row(8), drawer.load()
            limit = Ladder(pattern_of(row), load).limit
            told = OPEN if limit == OPEN else limit.equation
            self.assert_told(("limit", row, load, told), (), True)
            for wrong in [(1, 0), (0, 1, 0), (1, -1, 1), tuple(2 * part for part in told), tuple(-part for part in told), told[:2], (*told, 0),
                          told[::-1], list(told), limit, (told[-1], told[0])]:
                self.assert_told(("limit", row, load, wrong), (), type(wrong) is tuple and wrong == told)

    def test_limits_with_wrong_kinds(self):
        for row, told in ((LINE, (True, False)), (LINE, (1, False)), (RUNG, (0, True, 0)), (RUNG, (False, 1, False)), (GOLDEN, (True, -1, 1)),
                          (STAIRS, 2), (STAIRS, (2, 1)), (RUNG, 0), (RUNG, (0, 1)), (GOLDEN, (1, -1, EqualsAll()))):
            self.assert_told(("limit", row, 0, told), (), False)

    def test_orders_of_boxes(self):
        drawer = Drawer(86)
        for _ in range(40):
            sample = drawer.box_run()
            word, other_word = ("greatest", "least of all")[::sample.sense]
            rows = tuple(sample.rows)
            for count in (0, 1, 2, 3):
                best = sample.run(count)
                for order in product(range(len(rows)), repeat=count):
                    number = number_of(sample.load)
                    for at in reversed(order):
                        number = row_shows(rows[at], number)
                    pair = pair_from(number)
                    self.assert_told((word, rows, sample.load, count, best), order, pair == best)
                    self.assert_told((word, rows, sample.load, count, pair), order, pair == best)
            run = sample.run
            for count in (20, 100):
                top, bottom = run(count)
                self.assert_told((word, rows, sample.load, count, (top * 3, bottom * 3) if bottom else OPEN), run.order(count), True)
                self.assert_told((word, rows, sample.load, count, (top + 1, bottom + 1)), run.order(count), top == bottom)

    def test_boxes_with_long_rows(self):
        sample = BoxSample([LONG, LONG[::-1], GOLDEN], 3, 1)
        self.assert_told(("greatest", (LONG, LONG[::-1], GOLDEN), 3, 9, sample.run(9)), sample.run.order(9), True)

    def test_each_number_of_sections(self):
        ladder, low = LadderSample(GOLDEN, 1), Box(pattern_of(RUNG), pattern_of(GOLDEN)).least(3)
        for count in range(101):
            self.assert_told(("value", GOLDEN, 1, count, ladder.run(count)), (), True)
            self.assert_told(("least of all", (RUNG, GOLDEN), 3, count, low(count)), low.order(count), True)
            self.assert_told(("apart", GOLDEN, 0, STAIRS, 3, count), 2, True)
        for count in NO_COUNTS:
            self.assert_told(("value", LINE, (1, 0), count, (1, 0)), (), False)
            self.assert_told(("apart", GOLDEN, 0, STAIRS, 3, count), 2, False)
            self.assert_told(("greatest", (LINE,), (1, 0), count, (1, 0)), (), False)


WRONG_VALUES = [
    *NO_INTEGERS, *NO_RESISTANCES, *NO_PIECES, -1, 101, HUGE, (HUGE, 1), (1, HUGE), (HUGE, 0), (0, 0), "value", "most", (LINE, 5), [LINE], list(GOLDEN), GOLDEN * 5,
    (("rail", 13),), (("rail", 1), None), ((), ()), (GOLDEN,) * 5, (GOLDEN, None), (0,), (True,), (-1,), (1, 2, 3), (0, 1, 2), Pattern(("rail", 1)), Numbers(),
    Ladder(Pattern(("rail", 1)), 0), Box(Pattern(("rail", 1))), Box(Pattern(("rail", 1))).least(0), accepts, deep_tuple(15), "", {}, ((((((),),),),),),
]


def is_odd(value):
    return isinstance(value, (EqualsAll, EqualsNothing)) or (isinstance(value, tuple) and any(is_odd(part) for part in value))


class WrongTest(unittest.TestCase):
    def is_form(self, claim, certificate, at, value):
        """Whether the changed place may still be right, which other tests look at."""
        place = certificate if at is None else claim[at]
        if is_odd(value):
            return False
        numbers = type(value) is int or (type(value) is tuple and len(value) == 2 and all(type(part) is int for part in value))
        if type(place) is int or (type(place) is tuple and len(place) == 2 and type(place[0]) is int):
            return numbers
        if type(value) is tuple and value in ((("rail", 1),), (("rail", 1), ("rung", 1))):
            return True
        return type(place) is type(value) and place == value

    def test_every_place_changed(self):
        for claim, certificate in RIGHT:
            for value in WRONG_VALUES:
                for at in range(len(claim)):
                    changed = (*claim[:at], value, *claim[at + 1:])
                    told = accepts(changed, certificate)
                    self.assertIs(type(told), bool)
                    if not self.is_form(claim, certificate, at, value):
                        self.assertIs(told, False, (changed, certificate))
                told = accepts(claim, value)
                self.assertIs(type(told), bool)
                if not self.is_form(claim, certificate, None, value):
                    self.assertIs(told, False, (claim, value))

    def test_resistances(self):
        wrong = [value for value in NO_RESISTANCES]
        for value in wrong:
            for claim, certificate in [(("value", LINE, value, 0, 1), ()), (("value", RUNG, value, 0, value), ()), (("most", RUNG, value, (1, 0)), (1, 0)),
                                       (("most", RUNG, 0, value), 0), (("least", LINE, value, 0), 0), (("least", LINE, (1, 0), value), (1, 0)),
                                       (("apart", RUNG, value, LINE, (1, 0), 0), (1, 0)), (("apart", RUNG, 0, LINE, value, 0), 0),
                                       (("limit", GOLDEN, value, (1, -1, 1)), ()), (("greatest", (LINE,), value, 0, value), ()),
                                       (("least of all", (LINE,), value, 0, value), ())]:
                self.assertIs(accepts(claim, certificate), False, (claim, certificate))

    def test_longer_shorter_and_lists(self):
        for claim, certificate in RIGHT:
            for changed in [claim[:-1], claim[1:], (*claim, 0), (*claim, ()), (*claim, claim[-1]), list(claim), (claim,), (claim[0], claim[1:]), claim[:1], ()]:
                self.assertIs(accepts(changed, certificate), False, changed)
            for at in range(1, len(claim)):
                if type(claim[at]) is tuple:
                    self.assertIs(accepts((*claim[:at], list(claim[at]), *claim[at + 1:]), certificate), False)
            if type(certificate) is tuple:
                self.assertIs(accepts(claim, list(certificate)), False)
                self.assertIs(accepts(claim, (certificate,)), False)
                self.assertIs(accepts(claim, (*certificate, 0)), False)

    def test_words(self):
        for claim, certificate in RIGHT:
            for word in ("", claim[0].upper(), claim[0].title(), claim[0] + " ", " " + claim[0], claim[0].encode(), None, (claim[0],), [claim[0]], "same",
                         "values", EqualsAll(), EqualsNothing()):
                self.assertIs(accepts((word, *claim[1:]), certificate), False)

    def test_rows_of_pieces(self):
        for value in [(), GOLDEN * 5, LONG + LINE, list(GOLDEN), *[(piece,) for piece in NO_PIECES], *[(("rail", 1), piece) for piece in NO_PIECES[:20]],
                      "rail 1", Pattern(*GOLDEN), None]:
            self.assertIs(accepts(("value", value, 0, 0, 0), ()), False)
            self.assertIs(accepts(("never", value, GOLDEN), ()), False)
            self.assertIs(accepts(("never", RUNG, value), ()), False)
            self.assertIs(accepts(("greatest", (value,), 0, 0, 0), ()), False)
            self.assertIs(accepts(("greatest", (GOLDEN, value), 0, 0, 0), ()), False)
            self.assertIs(accepts(("limit", value, 0, (1, 0)), ()), False)
        for value in [(), (GOLDEN,) * 5, [GOLDEN], GOLDEN, None, Box(Pattern(*GOLDEN))]:
            self.assertIs(accepts(("greatest", value, 0, 0, 0), ()), False)
            self.assertIs(accepts(("least of all", value, 0, 0, 0), ()), False)

    def test_numbers_as_certificates(self):
        for value in [-1, True, None, (1, 0, 0), (2, 0), (0, 0), (HUGE, 0), (-1, 1), (1, -1), (True, 1), (1, True), [1, 1], "1", (), ((1, 1),), (True, False)]:
            self.assertIs(accepts(("most", RUNG, 0, (1, 0)), value), False)
            self.assertIs(accepts(("least", LINE, (1, 0), 0), value), False)
            self.assertIs(accepts(("apart", RUNG, 0, LINE, (1, 0), 0), value), False)
            self.assertIs(accepts(("more", LINE, RUNG, value), ()), False)
            self.assertIs(accepts(("value", LINE, 1, 0, value), ()), False)

    def test_orders_with_wrong_indices(self):
        claim = ("greatest", (GOLDEN, GOLDEN), 0, 2, (3, 2))
        self.assertIs(accepts(claim, (0, 1)), True)
        for order in [(0,), (0, 0, 0), (0, 2), (2, 0), (-1, 0), (0, -1), (False, 0), (0, True), (0, None), (0, "0"), (0, (0,)), [0, 1], "01", range(2),
                      (0, EqualsAll()), (EqualsNothing(), 0), (), None, 0]:
            self.assertIs(accepts(claim, order), False, order)

    def test_orders_of_another_length_where_the_run_stays(self):
        for word in ("greatest", "least of all"):
            for rows, load in (((LINE,), (1, 0)), ((RUNG, RUNG), 0), ((STAIRS,), 2)):
                for count in (0, 1, 3, 100):
                    for length in (0, 1, 2, 3, 4, 99, 100, 101):
                        self.assertIs(accepts((word, rows, load, count, load), (0,) * length), length == count)

    def test_any_two_values(self):
        values = [*WRONG_VALUES, *[claim for claim, _ in RIGHT[::3]], *[(word,) for word in ("value", "limit", "apart")]]
        for claim in values:
            for certificate in values[::4]:
                if claim not in [right for right, _ in RIGHT] if not is_odd(claim) else True:
                    self.assertIs(accepts(claim, certificate), False)


if __name__ == "__main__":
    unittest.main()

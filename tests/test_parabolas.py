"""The signs of parabolas between a resistance and a limit, by which runs and boxes are judged."""

import unittest
from fractions import Fraction
from random import Random

from model import number_of, order_of, pair_from, row_shows
from rungladders.exact import Exact
from rungladders.limits import OPEN
from rungladders.parabolas import difference, never_below, sign_at, sign_from, sign_towards
from run_samples import Drawer, pattern_of

LIMITS = [OPEN, Exact(0, 1, 0), Exact(0, 1, 2), Exact(0, 3, 7), Exact(0, 2, 1), Exact(1, -1, 1), Exact(1, 1, 1), Exact(1, 0, 3), Exact(3, -7, 5), Exact(2, 5, 9)]


def value_at(parabola, number):
    square, line, whole = parabola
    return square * number * number + line * number + whole


def sign_of(number):
    return (number > 0) - (number < 0)


def is_never_below(parabola, low, high):
    """For two Fractions: the parabola is lowest at an end, or at its lowest point if this lies between."""
    square, line, whole = parabola
    places = [low, high]
    if square != 0 and low < Fraction(-line, 2 * square) < high:
        places.append(Fraction(-line, 2 * square))
    return all(value_at(parabola, place) >= 0 for place in places)


class ParabolasTest(unittest.TestCase):
    def drawn(self, many):
        draw = Random(7).randint
        for _ in range(many):
            if draw(0, 2):
                # Roots at two fractions of at least 0 are the ones that matter.
                first, second = (draw(0, 9), draw(1, 5)), (draw(0, 9), draw(1, 5))
                sense = draw(0, 1) * 2 - 1
                yield (sense * first[1] * second[1], -sense * (first[0] * second[1] + second[0] * first[1]), sense * first[0] * second[0])
            else:
                yield (draw(-4, 4), draw(-9, 9), draw(-9, 9))

    def test_signs_at_pairs(self):
        for parabola in self.drawn(400):
            for pair in ((0, 1), (1, 3), (2, 1), (7, 2), (100, 1)):
                self.assertEqual(sign_at(parabola, pair), sign_of(value_at(parabola, Fraction(*pair))))
            self.assertEqual(sign_at(parabola, (1, 0)), sign_of(parabola[0]))

    def test_signs_from_pairs(self):
        for parabola in self.drawn(400):
            for pair in ((0, 1), (1, 3), (2, 1), (7, 2), (100, 1)):
                self.assertEqual(sign_from(parabola, pair), sign_of(value_at(parabola, Fraction(*pair))))
            self.assertEqual(sign_from(parabola, OPEN), sign_of(value_at(parabola, Fraction(10 ** 9))))

    def test_signs_towards_limits(self):
        for parabola in self.drawn(400):
            for limit in LIMITS:
                if limit == OPEN:
                    expected = sign_of(value_at(parabola, Fraction(10 ** 9)))
                elif limit.fraction is not None:
                    expected = sign_of(value_at(parabola, Fraction(*limit.fraction)))
                else:
                    # A number that is no fraction and a root of the parabola belongs to one equation times an integer.
                    square, line, whole = limit.equation
                    zero = parabola[0] * line == parabola[1] * square and -parabola[0] * whole == parabola[2] * square
                    place = Fraction(limit.floor(10 ** 40), 10 ** 40)
                    expected = 0 if zero and parabola[0] != 0 or parabola == (0, 0, 0) else sign_of(value_at(parabola, place))
                self.assertEqual(sign_towards(parabola, limit), expected, (parabola, limit))

    def test_never_below_towards_fractions_and_open_ends(self):
        found = []
        for parabola in self.drawn(1500):
            for pair in ((0, 1), (1, 3), (1, 1), (3, 2), (2, 1), (5, 1), (12, 1)):
                for limit in LIMITS[:5]:
                    if limit == OPEN:
                        low, high = Fraction(*pair), Fraction(10 ** 9)
                    else:
                        low, high = sorted([Fraction(*pair), Fraction(*limit.fraction)])
                    expected = is_never_below(parabola, low, high)
                    self.assertIs(never_below(parabola, pair, limit), expected, (parabola, pair, limit))
                    found.append(expected)
        self.assertGreater(min(found.count(True), found.count(False)), 5000)

    def test_never_below_towards_roots(self):
        for parabola in self.drawn(1500):
            for pair in ((0, 1), (1, 3), (1, 1), (3, 2), (2, 1), (5, 1), (12, 1)):
                for limit in LIMITS[5:]:
                    square, line, whole = limit.equation
                    if parabola[0] * line == parabola[1] * square and -parabola[0] * whole == parabola[2] * square:
                        continue
                    low, high = sorted([Fraction(*pair), Fraction(limit.floor(10 ** 40), 10 ** 40)])
                    self.assertIs(never_below(parabola, pair, limit), is_never_below(parabola, low, high), (parabola, pair, limit))

    def test_never_below_from_open_ends(self):
        lines = [(0, line, whole) for line in range(-3, 4) for whole in range(-9, 10)]
        found = []
        for parabola in [*self.drawn(1500), *lines]:
            for limit in LIMITS:
                if limit != OPEN and limit.fraction is None:
                    square, line, whole = limit.equation
                    if parabola[0] * line == parabola[1] * square and -parabola[0] * whole == parabola[2] * square:
                        continue
                low = Fraction(10 ** 9) if limit == OPEN else Fraction(limit.floor(10 ** 40), 10 ** 40)
                if limit != OPEN and limit.fraction is not None:
                    low = Fraction(*limit.fraction)
                expected = is_never_below(parabola, low, Fraction(10 ** 10))
                self.assertIs(never_below(parabola, OPEN, limit), expected, (parabola, limit))
                found.append(expected)
        self.assertGreater(min(found.count(True), found.count(False)), 3000)

    def test_differences(self):
        drawer = Drawer(111)
        for _ in range(300):
            row, other_row = drawer.row(8), drawer.row(8)
            gap = difference(pattern_of(row).matrix, pattern_of(other_row).matrix)
            for load in ((0, 1), (1, 0), (1, 2), (3, 1), (40, 1)):
                shown, other_shown = [pair_from(row_shows(part, number_of(load))) for part in (row, other_row)]
                self.assertEqual(sign_at(gap, load), order_of(shown, other_shown))


if __name__ == "__main__":
    unittest.main()

import unittest

from rungladders.boxes import Box
from rungladders.comparing import alike, count_of, less, more_load, never_more, settled, within
from rungladders.errors import InvalidResistance, NoLimit, NotAPattern, NotARun
from rungladders.exact import Exact
from rungladders.ladders import Ladder
from rungladders.numbers import Numbers
from rungladders.patterns import Pattern
from samples import NO_INTEGERS, NO_PIECES, NO_RESISTANCES

GOLDEN, RAIL = Pattern(("rail", 1), ("rung", 1)), Pattern(("rail", 1))
BOX = Box(GOLDEN, RAIL)
RUNS = [Ladder(GOLDEN, 0), Ladder(RAIL, (1, 0)), BOX.greatest(1), BOX.least(1)]
PLAIN = [*NO_INTEGERS, *NO_RESISTANCES, *NO_PIECES, 0, 1, (3, 2), "rail 1", ("rail", 1)]
NO_RUNS = [*PLAIN, GOLDEN, BOX, Ladder, Box, Exact(0, 1, 1), Numbers(), (RUNS[0],), [RUNS[0]]]
NO_PATTERNS = [*PLAIN, BOX, *RUNS, Pattern, (GOLDEN,), [GOLDEN]]
NO_DISTANCES = [*NO_RESISTANCES, 0, (0, 1), (0, 5), (1, 0), GOLDEN, RUNS[0]]
FEW_RUNS, FEW_PATTERNS, FEW_RESISTANCES = [None, GOLDEN, BOX, 5], [None, BOX, RUNS[0], 5], [None, -1, (1, 0, 0), GOLDEN]


class RefusedTest(unittest.TestCase):
    def assert_refused(self, function, names, passed, error, given):
        by_name = dict(zip(names, passed))
        turned = dict(reversed(list(by_name.items())))
        for call in (lambda: function(*passed), lambda: function(**by_name), lambda: function(**turned),
                     lambda: function(passed[0], **{name: by_name[name] for name in names[1:]})):
            with self.assertRaises(error) as context:
                call()
            self.assertIs(type(context.exception), error)
            self.assertIs(context.exception.given, given)

    def test_pairs_of_runs(self):
        for function in (less, alike):
            for value in NO_RUNS:
                for run in RUNS:
                    self.assert_refused(function, ("run", "other"), (value, run), NotARun, value)
                    self.assert_refused(function, ("run", "other"), (run, value), NotARun, value)
                for other in FEW_RUNS:
                    self.assert_refused(function, ("run", "other"), (value, other), NotARun, value)

    def test_pairs_of_patterns(self):
        for function in (never_more, more_load):
            for value in NO_PATTERNS:
                self.assert_refused(function, ("pattern", "other"), (value, GOLDEN), NotAPattern, value)
                self.assert_refused(function, ("pattern", "other"), (GOLDEN, value), NotAPattern, value)
                for other in FEW_PATTERNS:
                    self.assert_refused(function, ("pattern", "other"), (value, other), NotAPattern, value)

    def test_within(self):
        names = ("run", "low", "high")
        for value in NO_RUNS:
            for low, high in ((0, 1), (None, None), (-1, 1), (1, -1)):
                self.assert_refused(within, names, (value, low, high), NotARun, value)
        for value in NO_RESISTANCES:
            for run in RUNS:
                self.assert_refused(within, names, (run, value, 1), InvalidResistance, value)
                self.assert_refused(within, names, (run, 1, value), InvalidResistance, value)
                for high in FEW_RESISTANCES:
                    self.assert_refused(within, names, (run, value, high), InvalidResistance, value)

    def test_count_of(self):
        names = ("run", "target")
        for value in NO_RUNS:
            for target in (0, None, -1):
                self.assert_refused(count_of, names, (value, target), NotARun, value)
        for value in [*NO_RESISTANCES, GOLDEN]:
            for run in RUNS:
                self.assert_refused(count_of, names, (run, value), InvalidResistance, value)

    def test_settled(self):
        names = ("run", "near")
        for value in NO_RUNS:
            for near in (1, 0, (1, 0), None):
                self.assert_refused(settled, names, (value, near), NotARun, value)
        for value in NO_DISTANCES:
            # Also for runs without a limit, as this is told only when all arguments are right.
            for run in RUNS:
                self.assert_refused(settled, names, (run, value), InvalidResistance, value)
        for run in (RUNS[1], RUNS[2]):
            with self.assertRaises(NoLimit):
                settled(run, 1)

    def test_numbers_of_arguments(self):
        for function, passed in ((less, RUNS[:2]), (alike, RUNS[:2]), (within, (RUNS[0], 0, 1)), (count_of, (RUNS[0], 0)),
                                 (settled, (RUNS[0], 1)), (never_more, (GOLDEN, GOLDEN)), (more_load, (GOLDEN, GOLDEN))):
            for wrong in (passed[:-1], (*passed, 1)):
                with self.assertRaises(TypeError):
                    function(*wrong)


if __name__ == "__main__":
    unittest.main()

import inspect
import unittest

from rungladders.exact import Exact
from rungladders.ladders import Ladder
from rungladders.numbers import Numbers
from rungladders.patterns import Pattern

FILES = {Exact: "exact", Numbers: "numbers", Pattern: "patterns", Ladder: "ladders"}
METHODS = {
    Exact: ["__init__", "compare", "floor", "order", "__eq__", "__str__", "__repr__"],
    Numbers: ["__init__", "ascending", "__contains__", "__and__", "__or__", "__sub__", "__invert__", "__eq__", "__bool__",
              "__str__", "__repr__"],
    Pattern: ["__init__", "__call__", "__add__", "turned", "__eq__", "__len__", "__str__", "__repr__"],
    Ladder: ["__init__", "__call__", "opening"],
}
PROPERTIES = {
    Exact: ["fraction", "equation"],
    Numbers: ["stretches", "smallest", "endless"],
    Pattern: ["pieces", "numbers"],
    Ladder: ["goes", "limit", "load", "pattern"],
}
ARGUMENTS = [
    (Exact, "(square, line, whole)"), (Exact.compare, "(self, resistance)"), (Exact.floor, "(self, times)"),
    (Exact.order, "(self, other)"),
    (Numbers, "(*stretches)"), (Numbers.ascending, "(self, count)"),
    (Pattern, "(*pieces)"), (Pattern.__call__, "(self, load)"), (Pattern.turned, "(self)"), (Pattern.read, "(text)"),
    (Ladder, "(pattern, load)"), (Ladder.__call__, "(self, count)"), (Ladder.opening, "(self, count)"),
]


class InterfaceTest(unittest.TestCase):
    def test_defined_in_its_file(self):
        for kind, file in FILES.items():
            self.assertEqual(kind.__module__, f"rungladders.{file}")

    def test_members_stand_in_the_class_itself(self):
        for kind in FILES:
            for name in METHODS[kind]:
                self.assertTrue(inspect.isfunction(vars(kind)[name]), (kind, name))
            for name in PROPERTIES[kind]:
                self.assertIsInstance(vars(kind)[name], property, (kind, name))
        self.assertIsInstance(vars(Pattern)["read"], staticmethod)

    def test_arguments(self):
        for function, text in ARGUMENTS:
            self.assertEqual(str(inspect.signature(function)), text)

    def test_generators(self):
        for function in (Numbers.ascending, Ladder.opening):
            self.assertTrue(inspect.isgeneratorfunction(function))


class ExamplesTest(unittest.TestCase):
    """The examples of the document, as it prints them."""

    def test_exact_and_numbers(self):
        golden, some = Exact(2, -2, 2), Numbers((0, 2), (5, None))
        self.assertEqual(
            [golden.equation, golden.compare((13, 8)), golden.floor(1000), str(Exact(1, -1, 2)), golden.order(Exact(0, 1, 2)),
             str(~some), some - Numbers((1, 1)) == Numbers((0, 0), (2, 2), (5, None)), list(some.ascending(5))],
            [(1, -1, 1), -1, 1618, '2', -1, '3 to 4', True, [0, 1, 2, 5, 6]])

    def test_patterns_and_ladders(self):
        golden, line = Pattern(("rail", 1), ("rung", 1)), Pattern(("rail", 3))
        run = Ladder(golden, (1, 1))
        self.assertEqual(
            [golden((1, 0)), golden.numbers, str(golden + line), list(run.opening(4)), run.goes, run.limit.equation,
             Ladder(line, 0).limit, golden.turned()(0)],
            [(2, 1), ((2, 1), (1, 1), (1, 1), (1, 1)), 'rail 1, rung 1, rail 3', [(1, 1), (3, 2), (8, 5), (21, 13)], 1,
             (1, -1, 1), (1, 0), (1, 2)])


if __name__ == "__main__":
    unittest.main()

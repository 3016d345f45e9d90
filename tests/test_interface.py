import inspect
import unittest

from rungladders.benches import Bench
from rungladders.boxes import Box, Greatest, Least
from rungladders.certificates import certify_apart, certify_bound, certify_limit, certify_never, certify_value
from rungladders.checker import accepts
from rungladders.comparing import alike, count_of, less, more_load, never_more, settled, within
from rungladders.console import Console
from rungladders.equals import repetition, ring, star
from rungladders.errors import Broken
from rungladders.exact import Exact
from rungladders.ladders import Ladder
from rungladders.numbers import Numbers
from rungladders.patterns import Pattern

FILES = {Exact: "exact", Numbers: "numbers", Pattern: "patterns", Ladder: "ladders", Box: "boxes", Greatest: "boxes", Least: "boxes",
         Bench: "benches", Console: "console"}
FUNCTIONS = {
    "comparing": [less, alike, within, count_of, settled, never_more, more_load],
    "equals": [star, ring, repetition],
    "checker": [accepts],
    "certificates": [certify_value, certify_bound, certify_apart, certify_never, certify_limit],
}
METHODS = {
    Exact: ["__init__", "compare", "floor", "order", "__eq__", "__str__", "__repr__"],
    Numbers: ["__init__", "ascending", "__contains__", "__and__", "__or__", "__sub__", "__invert__", "__eq__", "__bool__",
              "__str__", "__repr__"],
    Pattern: ["__init__", "__call__", "__add__", "turned", "__eq__", "__len__", "__str__", "__repr__"],
    Ladder: ["__init__", "__call__", "opening"],
    Box: ["__init__", "__len__", "greatest", "least"],
    Greatest: ["__call__", "opening", "order", "forever"],
    Least: ["__call__", "opening", "order", "forever"],
    Bench: ["__init__", "__setitem__", "__getitem__", "__contains__", "__len__", "drop", "claim", "lift", "undo", "do_all", "trial", "tried"],
    Console: ["__init__", "say"],
}
PROPERTIES = {
    Exact: ["fraction", "equation"],
    Numbers: ["stretches", "smallest", "endless"],
    Pattern: ["pieces", "numbers"],
    Ladder: ["goes", "limit", "load", "pattern"],
    Box: ["kinds"],
    Greatest: ["goes", "limit", "load", "box"],
    Least: ["goes", "limit", "load", "box"],
    Bench: ["names", "claims", "changes"],
    Console: ["bench"],
}
ARGUMENTS = [
    (Exact, "(square, line, whole)"), (Exact.compare, "(self, resistance)"), (Exact.floor, "(self, times)"),
    (Exact.order, "(self, other)"),
    (Numbers, "(*stretches)"), (Numbers.ascending, "(self, count)"),
    (Pattern, "(*pieces)"), (Pattern.__call__, "(self, load)"), (Pattern.turned, "(self)"), (Pattern.read, "(text)"),
    (Ladder, "(pattern, load)"), (Ladder.__call__, "(self, count)"), (Ladder.opening, "(self, count)"),
    (Box, "(*kinds)"), (Box.greatest, "(self, load)"), (Box.least, "(self, load)"),
    *[(function, text) for kind in (Greatest, Least) for function, text in (
        (kind.__call__, "(self, count)"), (kind.opening, "(self, count)"), (kind.order, "(self, count)"), (kind.forever, "(self)"))],
    (less, "(run, other)"), (alike, "(run, other)"), (within, "(run, low, high)"), (count_of, "(run, target)"),
    (settled, "(run, near)"), (never_more, "(pattern, other)"), (more_load, "(pattern, other)"),
    (star, "(pattern)"), (ring, "(pattern)"), (repetition, "(pattern)"),
    (Bench, "()"), (Bench.drop, "(self, name)"), (Bench.claim, "(self, claim)"), (Bench.lift, "(self, index)"), (Bench.undo, "(self)"),
    (Bench.do_all, "(self, *deeds, watch=None)"), (Bench.trial, "(self)"), (Bench.tried, "(self, work)"),
    (accepts, "(claim, certificate)"), (certify_value, "(run, count)"), (certify_bound, "(pattern, load, bound)"),
    (certify_apart, "(run, other)"), (certify_never, "(pattern, other)"), (certify_limit, "(pattern, load)"),
    (Console, "()"), (Console.say, "(self, line)"),
]


class InterfaceTest(unittest.TestCase):
    def test_defined_in_its_file(self):
        for kind, file in FILES.items():
            self.assertEqual(kind.__module__, f"rungladders.{file}")
        for file, functions in FUNCTIONS.items():
            for function in functions:
                self.assertTrue(inspect.isfunction(function))
                self.assertEqual(function.__module__, f"rungladders.{file}")

    def test_members_stand_in_the_class_itself(self):
        for kind in FILES:
            for name in METHODS[kind]:
                self.assertTrue(inspect.isfunction(vars(kind)[name]), (kind, name))
            for name in PROPERTIES[kind]:
                self.assertIsInstance(vars(kind)[name], property, (kind, name))
        self.assertIsInstance(vars(Pattern)["read"], staticmethod)

    def test_arguments(self):
        for function, text in ARGUMENTS:
            self.assertEqual(str(inspect.signature(function)), text)

    def test_generators(self):
        for function in (Numbers.ascending, Ladder.opening, Greatest.opening, Least.opening):
            self.assertTrue(inspect.isgeneratorfunction(function))


class ExamplesTest(unittest.TestCase):
    """The examples of the document, as it prints them."""

    def test_exact_and_numbers(self):
        golden, some = Exact(2, -2, 2), Numbers((0, 2), (5, None))
        self.assertEqual(
            [golden.equation, golden.compare((13, 8)), golden.floor(1000), str(Exact(1, -1, 2)), golden.order(Exact(0, 1, 2)),
             str(~some), some - Numbers((1, 1)) == Numbers((0, 0), (2, 2), (5, None)), list(some.ascending(5))],
            [(1, -1, 1), -1, 1618, '2', -1, '3 to 4', True, [0, 1, 2, 5, 6]])

    def test_patterns_and_ladders(self):
        golden, line = Pattern(("rail", 1), ("rung", 1)), Pattern(("rail", 3))
        run = Ladder(golden, (1, 1))
        self.assertEqual(
            [golden((1, 0)), golden.numbers, str(golden + line), list(run.opening(4)), run.goes, run.limit.equation,
             Ladder(line, 0).limit, golden.turned()(0)],
            [(2, 1), ((2, 1), (1, 1), (1, 1), (1, 1)), 'rail 1, rung 1, rail 3', [(1, 1), (3, 2), (8, 5), (21, 13)], 1,
             (1, -1, 1), (1, 0), (1, 2)])

    def test_comparing(self):
        golden, stairs = Pattern(("rail", 1), ("rung", 1)), Pattern(("rail", 1), ("rung", 2))
        low, high = Ladder(golden, 5), Ladder(stairs, 1)
        self.assertEqual(
            [str(less(low, high)), str(alike(Ladder(golden, 0), Ladder(stairs, 0))), str(within(Ladder(golden, 0), (3, 2), (13, 8))),
             count_of(Ladder(golden, 0), (8, 5)), settled(Ladder(stairs, 0), (1, 10)), never_more(golden, stairs), more_load(golden, stairs)],
            ['from 2', '0 to 1', 'from 2', 3, 3, True, None])

    def test_boxes(self):
        box = Box(Pattern(("rail", 1), ("rung", 1)), Pattern(("rung", 2)), Pattern(("rail", 1), ("rung", 2)))
        high, low = box.greatest(0), box.least(3)
        self.assertEqual(
            [list(high.opening(4)), high.order(3), high.forever(), str(high.limit), list(low.opening(3)), low.order(2), low.forever(),
             str(low.limit)],
            [[(0, 1), (1, 1), (5, 3), (21, 11)], (2, 2, 0), (0, 2), '2', [(3, 1), (6, 5), (3, 4)], (1, 1), (0, 1), '0'])

    def test_equals(self):
        mixed, golden = Pattern(("rail", 1), ("rung", 2), ("rail", 3), ("rung", 6)), Pattern(("rail", 1), ("rung", 1))
        self.assertEqual(
            [star(mixed), ring(golden), repetition(golden + golden), repetition(Pattern(("rail", 2)))],
            [(('rail', (17, 11)), ('rung', (12, 11)), ('rail', (18, 11))), (('rail', (1, 1)), ('rung', (1, 1))),
             (2, (('rail', (1, 1)), ('rung', (1, 1)))), None])

    def test_benches(self):
        bench, golden = Bench(), Pattern(("rail", 1), ("rung", 1))
        done = bench.do_all(("set", "a", golden), ("set", "b", Pattern(("rail", 1), ("rung", 2))), ("claim", ("never", "a", "b")),
                            ("claim", ("most", "a", 0, 2)))
        self.assertIsNone(bench.undo())
        self.assertEqual([done, bench.names, bench.claims, bench.changes, bench.tried(len), bench.undo(), len(bench.claims)],
                         [4, ('a', 'b'), (('never', 'a', 'b'),), 3, 2, None, 0])

    def test_a_claim_that_is_broken(self):
        bench = Bench()
        bench["a"] = Pattern(("rail", 1), ("rung", 1))
        with self.assertRaises(Broken) as context:
            bench.claim(("most", "a", 0, 1))
        self.assertEqual(context.exception.index, 0)

    def test_certificates(self):
        golden, stairs = Pattern(("rail", 1), ("rung", 1)), Pattern(("rail", 1), ("rung", 2))
        claim, paper = certify_apart(Ladder(golden, 5), Ladder(stairs, 1))
        self.assertEqual(
            [claim[5], accepts(claim, paper), accepts(claim, (3, 1)), certify_value(Ladder(golden, 0), 2), certify_bound(golden, 0, 1),
             certify_limit(golden, 7)[0][3]],
            [2, True, False, (('value', (('rail', 1), ('rung', 1)), (0, 1), 2, (3, 2)), ()), None, (1, -1, 1)])

    def test_console(self):
        console = Console()
        self.assertEqual(
            [console.say("a = rail 1, rung 1"), console.say("b = rail 1, rung 2"), console.say("a before open at 2"), console.say("a limit 0"),
             console.say("b limit 0"), console.say("a less 5 b 1"), console.say("a never b"), console.say("c = b turned")],
            ['rail 1, rung 1', 'rail 1, rung 2', '5/3', 'root of 1, -1, 1', '2', 'from 2', 'ok', 'rung 2, rail 1'])


if __name__ == "__main__":
    unittest.main()

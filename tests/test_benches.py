import unittest

from bench_model import filled_bench, full_state_of, state_of
from rungladders.benches import Bench
from rungladders.errors import Broken, InUse, InvalidClaim, InvalidIndex, InvalidName, NotAPattern, NothingToUndo, UnknownName
from rungladders.limits import OPEN
from rungladders.patterns import Pattern
from samples import NO_INTEGERS, NO_PIECES, NO_RESISTANCES, EqualsAll, EqualsNothing, others_than

GOLDEN, STAIRS, LINE, RUNG = [Pattern.read(text) for text in ("rail 1, rung 1", "rail 1, rung 2", "rail 2", "rung 3")]
GOOD_NAMES = ["a", "z", "ab", "abcdefgh", "zzzzzzzz", "drop", "undo", "set", "never", "rail", "open"]
NO_NAMES = ["", "abcdefghi", "A", "aB", "a1", "1", "a b", " a", "a ", "a_b", "a-b", "a\n", "é", "ä", "ß", "ａ", "ab.", b"a", b"abc", ["a"], ("a",),
            {"a": 1}, {"a"}, *NO_INTEGERS, 0, 1, GOLDEN]


class BenchCase(unittest.TestCase):
    def assert_error(self, bench, call, error, **told):
        """The call raises this error, and the bench is as it was."""
        before = full_state_of(bench)
        with self.assertRaises(error) as context:
            call()
        self.assertIs(type(context.exception), error)
        for name, value in told.items():
            if name == "given":
                self.assertIs(context.exception.given, value)
            else:
                self.assertEqual(getattr(context.exception, name), value)
        self.assertEqual(full_state_of(bench), before)


def set_name(bench, name, pattern):
    bench[name] = pattern


class NamesTest(BenchCase):
    def test_set_and_asked(self):
        bench = Bench()
        for many, name in enumerate(GOOD_NAMES, 1):
            bench[name] = GOLDEN
            self.assertIs(bench[name], GOLDEN)
            self.assertEqual((len(bench), bench.changes), (many, many))
            self.assertEqual(bench.names, tuple(sorted(GOOD_NAMES[:many])))
            self.assertIs(name in bench, True)
        for name in GOOD_NAMES:
            bench[name] = STAIRS
            self.assertIs(bench[name], STAIRS)
        self.assertEqual((len(bench), bench.changes), (len(GOOD_NAMES), 2 * len(GOOD_NAMES)))
        self.assertIs(type(bench.names), tuple)
        self.assertIs(type(bench.claims), tuple)

    def test_a_new_bench(self):
        bench = Bench()
        self.assertEqual((len(bench), bench.names, bench.claims, bench.changes), (0, (), (), 0))
        self.assertIs(bool(bench), False)
        bench["a"] = GOLDEN
        self.assertIs(bool(bench), True)

    def test_patterns_of_eight_pieces(self):
        bench = Bench()
        joined = GOLDEN + GOLDEN + STAIRS + STAIRS
        bench["long"] = joined
        self.assertIs(bench["long"], joined)

    def test_unknown_names(self):
        bench = filled_bench()
        for value in [*NO_NAMES, "c", "lines", "zz"]:
            self.assertIs(value in bench, False)
            self.assert_error(bench, lambda: bench[value], UnknownName, given=value)
            self.assert_error(bench, lambda: bench.drop(value), UnknownName, given=value)
            self.assert_error(bench, lambda: bench.drop(name=value), UnknownName, given=value)

    def test_invalid_names(self):
        bench = filled_bench()
        for value in NO_NAMES:
            for pattern in (GOLDEN, None, "rail 1"):
                self.assert_error(bench, lambda: set_name(bench, value, pattern), InvalidName, given=value)

    def test_not_a_pattern(self):
        bench = filled_bench()
        for value in [*NO_INTEGERS, *NO_RESISTANCES, *NO_PIECES, "rail 1", (("rail", 1),), Pattern, bench]:
            self.assert_error(bench, lambda: set_name(bench, "a", value), NotAPattern, given=value)
            self.assert_error(bench, lambda: set_name(bench, "new", value), NotAPattern, given=value)

    def test_drop(self):
        bench = Bench()
        bench["a"], bench["b"] = GOLDEN, STAIRS
        self.assertIsNone(bench.drop("a"))
        self.assertEqual((bench.names, len(bench), bench.changes, "a" in bench), (("b",), 1, 3, False))
        self.assertIsNone(bench.drop(name="b"))
        self.assertEqual((bench.names, bench.changes, bool(bench)), ((), 4, False))

    def test_in_use(self):
        bench = filled_bench()
        self.assert_error(bench, lambda: bench.drop("a"), InUse, index=0)
        self.assert_error(bench, lambda: bench.drop("b"), InUse, index=0)
        bench.claim(("least", "line", 0, 0))
        self.assert_error(bench, lambda: bench.drop("line"), InUse, index=2)
        bench.lift(0)
        self.assert_error(bench, lambda: bench.drop("a"), InUse, index=0)
        self.assert_error(bench, lambda: bench.drop(name="line"), InUse, index=1)
        bench.drop("b")
        self.assertEqual(bench.names, ("a", "line"))

    def test_equal_only_to_itself(self):
        bench, other = Bench(), Bench()
        self.assertIs(bench == bench, True)
        for value in [other, bench.trial(), *others_than(Bench)]:
            self.assertIs(bench == value, False)
            self.assertIs(bench != value, True)

    def test_two_benches_are_apart(self):
        bench, other = filled_bench(), Bench()
        before = full_state_of(bench)
        other["a"] = LINE
        other.undo()
        self.assertEqual(full_state_of(bench), before)


CLAIMS = [
    ("never", "a", "b"), ("never", "a", "a"), ("same", "a", "a"), ("most", "a", 0, 2), ("most", "a", (6, 4), (1, 0)), ("least", "a", 1, 1),
    ("least", "b", (1, 0), 2), ("most", "line", 0, (1, 0)), ("least", "line", (5, 5), (2, 2)), ("never", "a", "line"), ("same", "line", "line"),
]
NO_CLAIMS = [
    *NO_INTEGERS, 0, 1, "never", "never a b", ("never",), ("never", "a"), ("never", "a", "b", "c"), ("same", "a"), ("same", "a", "b", "b"),
    ("most", "a"), ("most", "a", 0), ("most", "a", 0, 2, 2), ("least", "a", 0), ("least", "a", 0, 0, 0), ["never", "a", "b"], ("Never", "a", "b"),
    ("NEVER", "a", "b"), ("always", "a", "b"), ("", "a", "b"), (b"never", "a", "b"), (None, "a", "b"), (("never",), "a", "b"), (["never"], "a", "b"),
    (EqualsAll(), "a", "b"), (EqualsNothing(), "a", "b"), ("a", "never", "b"), ("most", 0, 2, "a"), ("apart", "a", "b"), ("value", "a", 0, 1),
    *[("most", "a", value, 2) for value in NO_RESISTANCES], *[("least", "a", 0, value) for value in NO_RESISTANCES],
    *[("most", "unknown", value, 2) for value in NO_RESISTANCES[:9]], ("least", None, 0, None), ("most", [], {}, 3), (GOLDEN, "a", "b"),
]


class ClaimsTest(BenchCase):
    def test_as_they_were_passed(self):
        bench = filled_bench()
        bench.lift(1)
        bench.lift(0)
        for many, claim in enumerate(CLAIMS, 1):
            self.assertIsNone(bench.claim(claim) if many % 2 else bench.claim(claim=claim))
            self.assertEqual(len(bench.claims), many)
            self.assertEqual([id(made) for made in bench.claims], [id(made) for made in CLAIMS[:many]])

    def test_invalid(self):
        bench = filled_bench()
        for value in NO_CLAIMS:
            self.assert_error(bench, lambda: bench.claim(value), InvalidClaim, given=value)
            self.assert_error(bench, lambda: bench.claim(claim=value), InvalidClaim, given=value)

    def test_unknown_names_from_the_left(self):
        bench = filled_bench()
        for value in [*NO_NAMES, "c", "zz"]:
            for claim in [("never", value, "a"), ("never", "a", value), ("same", value, None), ("same", "b", value), ("most", value, 0, 2),
                          ("least", value, (1, 0), 0), ("never", value, "zzz")]:
                self.assert_error(bench, lambda: bench.claim(claim), UnknownName, given=value)

    def test_broken(self):
        bench = filled_bench()
        for claim in [("never", "b", "a"), ("same", "a", "b"), ("most", "a", 0, 1), ("most", "a", 3, 2), ("least", "a", 0, 1), ("least", "a", 5, 2),
                      ("most", "line", 0, 10 ** 12), ("least", "line", 0, 1), ("least", "line", 0, (1, 0)), ("never", "line", "a")]:
            self.assert_error(bench, lambda: bench.claim(claim), Broken, index=2)
        bench.lift(0)
        self.assert_error(bench, lambda: bench.claim(("same", "a", "b")), Broken, index=1)

    def test_patterns_that_would_break_claims(self):
        bench = filled_bench()
        bench.claim(("never", "b", "line"))
        bench.claim(("least", "b", 1, 1))
        for name, pattern, index in [("a", LINE, 0), ("b", RUNG, 0), ("b", Pattern.read("rail 1, rung 6"), None), ("line", GOLDEN, 2), ("a", STAIRS, None),
                                     ("b", Pattern.read("rail 1, rail 2"), 2), ("a", RUNG, None)]:
            if index is None:
                bench[name] = pattern
                bench.undo()
            else:
                self.assert_error(bench, lambda: set_name(bench, name, pattern), Broken, index=index)
        bench.lift(0)
        self.assert_error(bench, lambda: set_name(bench, "a", Pattern.read("rail 2, rung 1")), Broken, index=0)
        bench["a"] = STAIRS
        self.assertIs(bench["a"], STAIRS)

    def test_same(self):
        bench = Bench()
        bench["a"], bench["b"] = Pattern.read("rung 3, rung 6"), Pattern.read("rung 2")
        bench.claim(("same", "a", "b"))
        bench["a"] = Pattern.read("rung 4, rung 4")
        self.assert_error(bench, lambda: set_name(bench, "a", RUNG), Broken, index=0)

    def test_lift(self):
        bench = filled_bench()
        bench.claim(("least", "line", 0, 0))
        first, second, third = bench.claims
        self.assertIsNone(bench.lift(1))
        self.assertEqual(bench.claims, (first, third))
        self.assertIsNone(bench.lift(index=0))
        self.assertEqual(bench.claims, (third,))
        bench["b"] = Pattern.read("rung 1")
        self.assertEqual(bench.changes, 9)

    def test_invalid_index(self):
        bench = filled_bench()
        for value in [*NO_INTEGERS, 2, 3, -1, -2, 10 ** 40, "0"]:
            self.assert_error(bench, lambda: bench.lift(value), InvalidIndex, given=value)
            self.assert_error(bench, lambda: bench.lift(index=value), InvalidIndex, given=value)
        empty = Bench()
        for value in (0, -1, False):
            self.assert_error(empty, lambda: empty.lift(value), InvalidIndex, given=value)


class BoundsTest(BenchCase):
    """Claims about all numbers of sections, at their bounds."""

    def assert_claims(self, text, load, most, least):
        """`most` and `least` are rows of bounds with whether the claim holds."""
        bench = Bench()
        bench["a"] = Pattern.read(text)
        for word, bounds in (("most", most), ("least", least)):
            for bound, holds in bounds:
                if holds:
                    bench.claim((word, "a", load, bound))
                    bench.undo()
                else:
                    self.assert_error(bench, lambda: bench.claim((word, "a", load, bound)), Broken, index=0)

    def test_limits_that_are_fractions(self):
        less, more = (2 * 10 ** 11 - 1, 10 ** 11), (2 * 10 ** 11 + 1, 10 ** 11)
        self.assert_claims("rail 1, rung 2", 0, [(2, True), (less, False), (more, True), (OPEN, True), (0, False)], [(0, True), ((1, 10 ** 12), False)])
        self.assert_claims("rail 1, rung 2", 3, [(3, True), (2, False), (OPEN, True), ((29, 10), False)], [(2, True), (more, False), (less, True), (0, True)])
        self.assert_claims("rail 1, rung 2", 2, [(2, True), (less, False), (more, True)], [(2, True), (less, True), (more, False), (OPEN, False)])
        self.assert_claims("rail 1, rung 2", OPEN, [(OPEN, True), (10 ** 12, False)], [(2, True), (more, False), (OPEN, False)])
        self.assert_claims("rail 1, rung 2", less, [(2, True), (less, False)], [(less, True), (2, False)])

    def test_limits_that_are_no_fractions(self):
        self.assert_claims("rail 1, rung 1", 0, [((161803398875, 10 ** 11), True), ((161803398874, 10 ** 11), False)], [(0, True), ((1, 9), False)])
        self.assert_claims("rail 1, rung 1", 2, [(2, True), ((19, 10), False)], [((161803398874, 10 ** 11), True), ((161803398875, 10 ** 11), False)])

    def test_rails_alone_and_rungs_alone(self):
        self.assert_claims("rail 1", 5, [(OPEN, True), (10 ** 12, False)], [(5, True), ((51, 10), False), (0, True)])
        self.assert_claims("rail 1", OPEN, [(OPEN, True), (5, False)], [(OPEN, True), (5, True)])
        self.assert_claims("rung 1", 5, [(5, True), ((49, 10), False), (OPEN, True)], [(0, True), ((1, 10 ** 12), False)])
        self.assert_claims("rung 1", 0, [(0, True), (1, True)], [(0, True), ((1, 10 ** 12), False)])
        self.assert_claims("rung 1", OPEN, [(OPEN, True), (10 ** 12, False)], [(0, True), (1, False)])

    def test_patterns_set_at_the_bound(self):
        bench = Bench()
        bench["a"] = Pattern.read("rail 1, rung 1")
        bench.claim(("most", "a", 0, 2))
        bench["a"] = Pattern.read("rail 1, rung 2")
        self.assert_error(bench, lambda: set_name(bench, "a", Pattern.read("rail 1, rung 3")), Broken, index=0)
        self.assert_error(bench, lambda: set_name(bench, "a", LINE), Broken, index=0)
        bench["a"] = RUNG


class UndoTest(BenchCase):
    def test_one_by_one(self):
        bench = Bench()
        states = [state_of(bench)]
        steps = [lambda: set_name(bench, "a", GOLDEN), lambda: set_name(bench, "b", STAIRS), lambda: bench.claim(("never", "a", "b")),
                 lambda: set_name(bench, "a", GOLDEN), lambda: set_name(bench, "a", STAIRS), lambda: bench.lift(0), lambda: bench.drop("b")]
        for step in steps:
            step()
            states.append(state_of(bench))
            self.assertEqual(bench.changes, len(states) - 1)
        while len(states) > 1:
            states.pop()
            self.assertIsNone(bench.undo())
            self.assertEqual(state_of(bench), states[-1])
        self.assert_error(bench, bench.undo, NothingToUndo)
        bench["z"] = LINE
        bench.undo()
        self.assert_error(bench, bench.undo, NothingToUndo)

    def test_changes_behind_what_was_taken_back(self):
        bench = filled_bench()
        bench.undo()
        bench.undo()
        bench["b"] = LINE
        self.assertEqual((bench.changes, bench.claims, bench["b"]), (4, (), LINE))
        bench.undo()
        self.assertEqual(bench["b"], STAIRS)


if __name__ == "__main__":
    unittest.main()

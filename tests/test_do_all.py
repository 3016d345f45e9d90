import unittest

from bench_model import do_deed, filled_bench, full_state_of, state_of
from rungladders.benches import Bench
from rungladders.errors import Broken, InUse, InvalidClaim, InvalidDeeds, InvalidIndex, InvalidName, NotAPattern, UnknownName
from rungladders.patterns import Pattern
from samples import NO_INTEGERS, EqualsAll, EqualsNothing

GOLDEN, STAIRS, LINE, RUNG = [Pattern.read(text) for text in ("rail 1, rung 1", "rail 1, rung 2", "rail 2", "rung 3")]
DEEDS = [
    ("set", "c", GOLDEN), ("set", "d", STAIRS), ("claim", ("never", "c", "d")), ("claim", ("same", "c", "a")), ("lift", 0), ("drop", "line"),
    ("set", "c", GOLDEN), ("set", "c", Pattern.read("rail 1, rung 2, rung 2")), ("claim", ("most", "c", (2, 2), 2)),
]
NO_DEEDS = [
    *NO_INTEGERS, 0, 1, "undo", ("undo",), ("set",), ("set", "c"), ("set", "c", GOLDEN, 1), ("drop",), ("drop", "a", "b"), ("claim",),
    ("claim", "never", "a", "b"), ("claim", ("never", "a", "b"), 1), ("lift",), ("lift", 0, 0), ["set", "c", GOLDEN], ["lift", 0], ("Set", "c", GOLDEN),
    ("SET", "c", GOLDEN), ("sets", "c", GOLDEN), ("", "c"), (b"drop", "c"), (None, "c"), (("drop",), "c"), (["drop"], "c"), (EqualsAll(), "c"),
    (EqualsNothing(), "c"), ("never", "a", "b"), ("do_all", ()), ("trial",), GOLDEN, (GOLDEN, "a", "b"),
]
FAILING = [
    (("set", "A", GOLDEN), InvalidName, "A"), (("set", "c", None), NotAPattern, None), (("set", 5, None), InvalidName, 5), (("drop", "zz"), UnknownName, "zz"),
    (("drop", "a"), InUse, 0), (("claim", None), InvalidClaim, None), (("claim", ("never", "a", "zz")), UnknownName, "zz"),
    (("lift", 99), InvalidIndex, 99), (("lift", True), InvalidIndex, True), (("set", "a", LINE), Broken, 0),
]


class Stop(Exception):
    pass


class Halt(BaseException):
    pass


class DoAllTest(unittest.TestCase):
    def assert_error(self, bench, deeds, error, told, **more):
        before = full_state_of(bench)
        with self.assertRaises(error) as context:
            bench.do_all(*deeds, **more)
        self.assertIs(type(context.exception), error)
        self.assertEqual(getattr(context.exception, "given", getattr(context.exception, "index", None)), told)
        self.assertEqual(full_state_of(bench), before)

    def test_no_deeds(self):
        for bench in (Bench(), filled_bench()):
            before = full_state_of(bench)
            self.assertEqual((bench.do_all(), bench.do_all(watch=None), bench.do_all(watch=self.fail)), (0, 0, 0))
            self.assertEqual(full_state_of(bench), before)

    def test_some_deeds(self):
        for many in range(len(DEEDS) + 1):
            bench, other = filled_bench(), filled_bench()
            told = bench.do_all(*DEEDS[:many])
            self.assertEqual((told, type(told)), (many, int))
            for deed in DEEDS[:many]:
                do_deed(other, deed)
            self.assertEqual((bench.names, bench.claims, bench.changes), (other.names, other.claims, 5 + many))
            for _ in range(many):
                bench.undo()
                other.undo()
                self.assertEqual((bench.names, bench.claims, bench.changes), (other.names, other.claims, other.changes))
            self.assertEqual((bench.changes, len(bench)), (5, 3))

    def test_the_very_things(self):
        bench = Bench()
        claim = ("never", "a", "a")
        bench.do_all(("set", "a", GOLDEN), ("claim", claim))
        self.assertIs(bench["a"], GOLDEN)
        self.assertIs(bench.claims[0], claim)

    def test_no_deed_at_every_place(self):
        for value in NO_DEEDS:
            for at in range(len(DEEDS) + 1):
                seen = []
                self.assert_error(filled_bench(), [*DEEDS[:at], value, *DEEDS[at:]], InvalidDeeds, at)
                self.assert_error(filled_bench(), [*DEEDS[:at], value, *DEEDS[at:], value], InvalidDeeds, at, watch=seen.append)
                self.assertEqual(seen, [])

    def test_before_any_deed_is_done(self):
        for deed, error, told in FAILING:
            self.assert_error(filled_bench(), [deed, ("drop",)], InvalidDeeds, 1)

    def test_failing_at_every_place(self):
        for deed, error, told in FAILING[:4] + FAILING[5:9]:
            for at in range(len(DEEDS) + 1):
                seen = []
                self.assert_error(filled_bench(), [*DEEDS[:at], deed, *DEEDS[at:]], error, told)
                self.assert_error(filled_bench(), [*DEEDS[:at], deed, *DEEDS[at:], deed], error, told, watch=lambda bench: seen.append(bench.changes))
                self.assertEqual(seen, [6 + number for number in range(at)])
        for deed, error, told in FAILING:
            self.assert_error(filled_bench(), [deed], error, told)
            self.assert_error(filled_bench(), [DEEDS[0], deed, DEEDS[1]], error, told)

    def test_errors_that_depend_on_deeds_before(self):
        bench = filled_bench()
        self.assert_error(bench, [("set", "x", LINE), ("claim", ("never", "b", "x")), ("set", "x", RUNG)], Broken, 2)
        self.assert_error(bench, [("lift", 0), ("lift", 0), ("lift", 0)], InvalidIndex, 0)
        self.assert_error(bench, [("drop", "line"), ("drop", "line")], UnknownName, "line")
        self.assertEqual(bench.do_all(("lift", 0), ("drop", "b")), 2)

    def test_watch_notes_what_the_bench_tells(self):
        bench, other = filled_bench(), filled_bench()
        seen = []

        def watch(watched):
            self.assertIs(watched, bench)
            seen.append((watched.names, watched.claims, watched.changes, len(watched), "c" in watched))

        self.assertEqual(bench.do_all(*DEEDS, watch=watch), len(DEEDS))
        expected = []
        for deed in DEEDS:
            do_deed(other, deed)
            expected.append((other.names, other.claims, other.changes, len(other), "c" in other))
        self.assertEqual(seen, expected)

    def test_watch_that_raises(self):
        for error in (Stop, Halt, KeyError, StopIteration, Broken):
            for at in range(len(DEEDS)):
                bench = filled_bench()
                before = full_state_of(bench)
                seen = []

                def watch(watched):
                    seen.append(watched.changes)
                    if len(seen) > at:
                        raise error(1)

                with self.assertRaises(error):
                    bench.do_all(*DEEDS, watch=watch)
                self.assertEqual(full_state_of(bench), before)
                self.assertEqual(seen, [6 + number for number in range(at + 1)])

    def test_watch_that_tries(self):
        bench, seen = filled_bench(), []

        def watch(watched):
            with watched.trial():
                watched.undo()
                seen.append(watched.changes)

        bench.do_all(*DEEDS[:3], watch=watch)
        self.assertEqual((seen, bench.changes), ([5, 6, 7], 8))

    def test_watch_by_name_alone(self):
        with self.assertRaises(InvalidDeeds):
            Bench().do_all(len)
        with self.assertRaises(TypeError):
            Bench().do_all(deeds=())


class TrialsTest(unittest.TestCase):
    def test_as_gives_the_bench(self):
        bench = filled_bench()
        with bench.trial() as tried:
            self.assertIs(tried, bench)
        with bench.trial():
            pass

    def test_the_bench_is_as_it_was(self):
        for bench in (Bench(), filled_bench()):
            before = full_state_of(bench)
            with bench.trial():
                bench["x"] = LINE
                bench["y"] = RUNG
                bench.undo()
                bench.claim(("same", "x", "x"))
                self.assertIn("x", bench)
            self.assertEqual(full_state_of(bench), before)
            with bench.trial():
                while bench.changes:
                    bench.undo()
                bench["a"] = LINE
            self.assertEqual(full_state_of(bench), before)

    def test_errors_end_it(self):
        bench = filled_bench()
        before = full_state_of(bench)
        for error in (Stop("x"), Halt("y"), KeyError("z"), Broken(3), StopIteration()):
            with self.assertRaises(type(error)) as context:
                with bench.trial():
                    bench["x"] = LINE
                    bench.undo()
                    bench.undo()
                    raise error
            self.assertIs(context.exception, error)
            self.assertEqual(full_state_of(bench), before)
        with self.assertRaises(Broken):
            with bench.trial():
                bench.drop("line")
                bench["a"] = LINE
        self.assertEqual(full_state_of(bench), before)

    def test_left_in_other_ways(self):
        bench = filled_bench()
        before = full_state_of(bench)

        def left():
            for _ in range(3):
                with bench.trial():
                    bench["x"] = LINE
                    continue
            with bench.trial():
                bench["x"] = LINE
                return bench.changes

        self.assertEqual(left(), 6)
        self.assertEqual(full_state_of(bench), before)

    def test_one_within_another(self):
        bench = filled_bench()
        before = full_state_of(bench)
        with bench.trial():
            bench["x"] = LINE
            middle = state_of(bench)
            with bench.trial():
                bench["y"] = LINE
                bench.undo()
                bench.undo()
                bench.undo()
            self.assertEqual(state_of(bench), middle)
            bench.undo()
        self.assertEqual(full_state_of(bench), before)

    def test_within_itself_and_again(self):
        bench = filled_bench()
        before = full_state_of(bench)
        trial = bench.trial()
        for _ in range(3):
            with trial as outer:
                bench["x"] = LINE
                first = state_of(bench)
                with trial as inner:
                    self.assertIs(inner, outer)
                    bench["y"] = RUNG
                    second = state_of(bench)
                    with self.assertRaises(Stop):
                        with trial:
                            bench.undo()
                            bench.undo()
                            raise Stop
                    self.assertEqual(state_of(bench), second)
                self.assertEqual(state_of(bench), first)
            self.assertEqual(full_state_of(bench), before)
        bench["z"] = LINE
        after = full_state_of(bench)
        with trial:
            bench.undo()
        self.assertEqual(full_state_of(bench), after)

    def test_a_trial_made_before_changes(self):
        bench = filled_bench()
        trial = bench.trial()
        bench["x"] = LINE
        after = full_state_of(bench)
        with trial:
            bench.drop("x")
        self.assertEqual(full_state_of(bench), after)

    def test_trials_are_true(self):
        self.assertTrue(Bench().trial())

    def test_tried(self):
        bench = filled_bench()
        before = full_state_of(bench)

        def work(tried):
            self.assertIs(tried, bench)
            tried["x"] = LINE
            tried.undo()
            tried.undo()
            return [tried.changes]

        self.assertEqual(bench.tried(work), [4])
        self.assertEqual(bench.tried(work=work), [4])
        self.assertEqual((bench.tried(len), bench.tried(lambda tried: None)), (3, None))
        self.assertEqual(bench.tried(lambda tried: tried.tried(work)), [4])
        self.assertEqual(bench.tried(lambda tried: tried.do_all(*DEEDS)), len(DEEDS))
        self.assertEqual(full_state_of(bench), before)

    def test_tried_with_errors(self):
        bench = filled_bench()
        before = full_state_of(bench)

        def work(tried):
            tried["x"] = LINE
            raise Halt

        with self.assertRaises(Halt):
            bench.tried(work)
        with self.assertRaises(InUse):
            bench.tried(lambda tried: tried.drop("a"))
        self.assertEqual(full_state_of(bench), before)


if __name__ == "__main__":
    unittest.main()

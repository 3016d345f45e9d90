import unittest

from bench_model import full_state_of
from model import ALL_PIECES, run_of, text_of
from rungladders.benches import Bench
from rungladders.comparing import less
from rungladders.console import Console
from rungladders.errors import Broken, InUse, InvalidText, NothingToUndo, TooMany, UnknownName
from rungladders.ladders import Ladder
from rungladders.limits import OPEN
from rungladders.patterns import Pattern
from run_samples import MOST, Drawer, pattern_of
from samples import NO_INTEGERS, NO_PIECES, NO_RESISTANCES, others_than


def text(pair):
    top, bottom = pair
    return "open" if bottom == 0 else str(top) if bottom == 1 else f"{top}/{bottom}"


def filled_console():
    console = Console()
    for line in ("a = rail 1, rung 1", "b = rail 1, rung 2", "line = rail 2", "long = rail 1, rung 2, rail 3, rung 4, rail 5"):
        console.say(line)
    return console


class ConsoleCase(unittest.TestCase):
    def say(self, console, line):
        told = console.say(line)
        self.assertIs(type(told), str)
        return told

    def assert_error(self, console, line, error, **told):
        """The line raises this error, and the bench is as it was."""
        before = full_state_of(console.bench)
        for call in (lambda: console.say(line), lambda: console.say(line=line)):
            with self.assertRaises(error) as context:
                call()
            self.assertIs(type(context.exception), error)
            for name, value in told.items():
                if name == "given" and not isinstance(value, str):
                    self.assertIs(context.exception.given, value)
                else:
                    self.assertEqual(getattr(context.exception, name), value)
        self.assertEqual(full_state_of(console.bench), before)


class LinesTest(ConsoleCase):
    def test_patterns(self):
        console = Console()
        for piece in ALL_PIECES:
            self.assertEqual(self.say(console, f"a = {text_of([piece])}"), text_of([piece]))
            self.assertEqual(console.bench["a"].pieces, (piece,))
        drawer = Drawer(101)
        for _ in range(100):
            row = drawer.row(8)
            self.assertEqual(self.say(console, f"name = {text_of(row)}"), text_of(row))
            self.assertEqual(console.bench["name"].pieces, row)

    def test_joined(self):
        console = filled_console()
        self.assertEqual(self.say(console, "c = a + b"), "rail 1, rung 1, rail 1, rung 2")
        self.assertEqual(self.say(console, "a = a + a"), "rail 1, rung 1, rail 1, rung 1")
        self.assertEqual(self.say(console, "a = long + line"), "rail 1, rung 2, rail 3, rung 4, rail 5, rail 2")
        self.assertEqual(console.bench["c"].pieces, (("rail", 1), ("rung", 1), ("rail", 1), ("rung", 2)))
        self.assert_error(console, "d = long + a", TooMany, most=8)
        self.assertNotIn("d", console.bench)

    def test_turned(self):
        console = filled_console()
        self.assertEqual(self.say(console, "c = b turned"), "rung 2, rail 1")
        self.assertEqual(self.say(console, "long = long turned"), "rail 5, rung 4, rail 3, rung 2, rail 1")
        self.assertEqual(console.bench["c"].pieces, (("rung", 2), ("rail", 1)))

    def test_drop_and_undo(self):
        console = filled_console()
        self.assertEqual(self.say(console, "drop line"), "ok")
        self.assertEqual(console.bench.names, ("a", "b", "long"))
        self.assertEqual(self.say(console, "undo"), "ok")
        self.assertEqual(console.bench.names, ("a", "b", "line", "long"))
        for _ in range(4):
            self.assertEqual(self.say(console, "undo"), "ok")
        self.assertEqual((len(console.bench), console.bench.changes), (0, 0))
        self.assert_error(console, "undo", NothingToUndo)

    def test_claims(self):
        console = filled_console()
        for line, claim in [
            ("a never b", ("never", "a", "b")), ("a same a", ("same", "a", "a")), ("a most 0 2", ("most", "a", (0, 1), (2, 1))),
            ("a most 3/2 open", ("most", "a", (3, 2), (1, 0))), ("line least 1/1000000000000 1/1000000000000", ("least", "line", (1, MOST), (1, MOST))),
            ("line least open 1000000000000", ("least", "line", (1, 0), (MOST, 1))), ("b least 3 2", ("least", "b", (3, 1), (2, 1))),
        ]:
            self.assertEqual(self.say(console, line), "ok")
            self.assertEqual(console.bench.claims[-1], claim)
            self.assertEqual([type(part) for part in claim[2:] if isinstance(part, tuple)],
                             [type(part) for part in console.bench.claims[-1][2:] if isinstance(part, tuple)])

    def test_shown(self):
        console = filled_console()
        for name in ("a", "b", "line", "long"):
            for load in ((0, 1), (1, 0), (3, 2), (MOST, 1), (1, MOST), (5, 1)):
                shown = run_of(console.bench[name].pieces, load, 100)
                for count in (0, 1, 2, 9, 10, 99, 100):
                    self.assertEqual(self.say(console, f"{name} before {text(load)} at {count}"), text(shown[count]))

    def test_limits(self):
        console = filled_console()
        console.bench["rungs"] = Pattern(("rung", 3))
        for load in ("0", "open", "3/2", "1000000000000"):
            for name, told in (("a", "root of 1, -1, 1"), ("b", "2"), ("line", "open"), ("rungs", "0")):
                self.assertEqual(self.say(console, f"{name} limit {load}"), told)

    def test_less(self):
        console = filled_console()
        drawer = Drawer(102)
        for _ in range(80):
            rows, loads = [drawer.row(), drawer.row()], [drawer.load(), drawer.load()]
            for name, row in zip("xy", rows):
                console.say(f"{name} = {text_of(row)}")
            runs = [Ladder(pattern_of(row), load) for row, load in zip(rows, loads)]
            line = f"x less {text(runs[0].load)} y {text(runs[1].load)}"
            try:
                expected = str(less(*runs))
            except TooMany:
                self.assert_error(console, line, TooMany, most=1000)
                continue
            self.assertEqual(self.say(console, line), expected)
        self.assertEqual(self.say(console, "a less 5 b 1"), "from 2")
        self.assertEqual(self.say(console, "line less open line open"), "none")

    def test_errors_of_what_is_done(self):
        console = filled_console()
        console.say("a never b")
        console.say("a most 0 2")
        self.assert_error(console, "drop a", InUse, index=0)
        self.assert_error(console, "a = rail 2", Broken, index=0)
        self.assert_error(console, "a = line + line", Broken, index=0)
        self.assert_error(console, "b = b turned", Broken, index=0)
        self.assert_error(console, "b never a", Broken, index=2)
        self.assert_error(console, "a same b", Broken, index=2)
        self.assert_error(console, "a most 0 1", Broken, index=2)
        self.assert_error(console, "line least 0 1", Broken, index=2)
        console.say("one = rail 1")
        self.assert_error(console, "line less 0 one 1000", TooMany, most=1000)
        self.assertEqual(self.say(console, "line less 0 one 999"), "0 to 998")

    def test_names_that_are_words(self):
        console = Console()
        words = ["drop", "undo", "never", "same", "most", "least", "before", "at", "limit", "less", "turned", "open", "rail", "rung", "from", "root"]
        for word in words:
            self.assertEqual(self.say(console, f"{word} = rail 1, rung 1"), "rail 1, rung 1")
        self.assertEqual(console.bench.names, tuple(sorted(words)))
        for line, told in [
            ("never never never", "ok"), ("drop same undo", "ok"), ("undo never drop", "ok"), ("same same same", "ok"), ("most most 0 2", "ok"),
            ("least least 1 1", "ok"), ("before before 0 at 1", "1"), ("at before open at 0", "open"), ("limit limit 0", "root of 1, -1, 1"),
            ("less less open less open", "none"), ("open limit open", "root of 1, -1, 1"), ("turned = turned turned", None), ("rail = rail + rung", None),
            ("rail = rail 1", "rail 1"), ("x = rail turned", "rail 1"), ("rung = rail turned", "rail 1"), ("drop at", "ok"), ("drop = drop turned", None),
        ]:
            try:
                found = self.say(console, line)
            except Broken:
                found = "broken"
            if told is not None:
                self.assertEqual(found, told, line)
        self.assertEqual(self.say(console, "drop turned"), "ok")
        self.assertEqual(self.say(console, "undo"), "ok")
        self.assertIn("turned", console.bench)

    def test_the_very_bench(self):
        console, other = Console(), Console()
        bench = console.bench
        self.assertIs(type(bench), Bench)
        console.say("a = rail 1")
        self.assertIs(console.bench, bench)
        self.assertEqual(bench.names, ("a",))
        bench["b"] = Pattern(("rung", 1))
        self.assertEqual(self.say(console, "b limit 0"), "0")
        self.assertEqual(len(other.bench), 0)
        with self.assertRaises(AttributeError):
            console.bench = Bench()
        self.assertIs(bool(console), True)
        for value in [other, *others_than(Console)]:
            self.assertIs(console == value, False)

    def test_by_name_and_again(self):
        console = filled_console()
        for line in ("a before 3/2 at 7", "a limit 1", "a less 0 b 0"):
            self.assertEqual([console.say(line=line), console.say(line), console.say(line)], [console.say(line)] * 3)


def wrong_lines():
    right = ["a = rail 1, rung 1", "a = a + b", "a = b turned", "drop a", "undo", "a never b", "a same a", "a most 0 2", "a least 3/2 1", "a before 0 at 5",
             "a limit open", "a less 5 b 1"]
    for line in right:
        words = line.split(" ")
        yield from (line + " ", " " + line, line + "\n", "\n" + line, line.upper(), line.title(), line.replace(" ", "  ", 1), line + " a", "a " + line,
                    line.replace(" ", "\t"), line + ";", line.replace(" ", ""), f"{line} {line}", line + " 0", line + " undo")
        for at in range(len(words)):
            shorter = words[:at] + words[at + 1:]
            if " ".join(shorter) not in ("undo",):
                yield " ".join(shorter)
            yield " ".join(words[:at] + [words[at].upper()] + words[at + 1:]) if words[at] != words[at].upper() else ""
            yield " ".join(words[:at] + ["-1"] + words[at + 1:])
            yield " ".join(words[:at] + ["abcdefghi"] + words[at + 1:])
            yield " ".join(words[:at] + [""] + words[at + 1:])
            yield " ".join(words[:at] + ["é"] + words[at + 1:])
        for at in range(len(words) - 1):
            exchanged = words[:at] + [words[at + 1], words[at]] + words[at + 2:]
            if exchanged != words:
                yield " ".join(exchanged)


RIGHT_ANYWAY = {"a never b", "drop a", "undo", "a most 2 0", "a least 1 3/2"}


class RefusedTest(ConsoleCase):
    def test_wrong_lines(self):
        console = filled_console()
        many = 0
        for line in wrong_lines():
            if line not in RIGHT_ANYWAY:
                many += 1
                self.assert_error(console, line, InvalidText, given=line)
        self.assertGreater(many, 300)

    def test_wrong_numbers(self):
        console = filled_console()
        for ohms in ["6/4", "2/2", "0/1", "0/5", "3/1", "4/2", "00", "01", "03", "-1", "+1", "1.5", "1,5", "", "1/", "/2", "1/0", "0/0", "1/2/3", "3/02", "03/2",
                     "1 /2", "1e3", "1_0", "1000000000001", "1/1000000000001", "1000000000001/2", "9" * 14, "9" * 5000, "1/" + "9" * 5000, "Open", "OPEN",
                     "opens", "inf", "none", "a", "a/b", "٣", "１", "²", "½", "1/٣", "--1", "0x1", "1/-2", "(1,2)", "2/4", "10/5"]:
            for line in (f"a most {ohms} 2", f"a most 0 {ohms}", f"a least {ohms} 0", f"a least 0 {ohms}", f"a before {ohms} at 1", f"a limit {ohms}",
                         f"a less {ohms} b 1", f"a less 1 b {ohms}", f"zz limit {ohms}", f"zz most {ohms} 2"):
                self.assert_error(console, line, InvalidText, given=line)

    def test_wrong_counts(self):
        console = filled_console()
        for count in ["101", "-1", "00", "01", "007", "1000", "", "1/2", "a", "open", "+1", "1.0", "٣", "²", "9" * 5000, "1_0", " 1"]:
            for name in ("a", "zz"):
                line = f"{name} before 0 at {count}"
                self.assert_error(console, line, InvalidText, given=line)

    def test_wrong_patterns(self):
        console = filled_console()
        for told in ["rail", "rail 0", "rail 13", "rail 01", "rail 1,rung 1", "rail 1 , rung 1", "rail 1, ", "rail 1,", ", rail 1", "Rail 1", "rail 1  ", "rails 1",
                     "rail 1, rung", "rail 1 rung 1", "bolt 1", ", ".join(["rail 1"] * 9), "a", "b", "a + ", "a +b", "a + b + a", "a - b", "a turned turned", "turned",
                     "a turned + b", "rail 1 + rung 1", "a, b", "rail 1 turned", "a + rail 1", "", " ", "= rail 1", "zz", "a Turned", "a ++ b"]:
            for name in ("a", "new", "b"):
                self.assert_error(console, f"{name} = {told}", InvalidText, given=f"{name} = {told}")

    def test_wrong_names(self):
        console = filled_console()
        for name in ["abcdefghi", "A", "aB", "a1", "1", "", "a_b", "a-b", "é", "a.", "a,", "rail 1", "a b"]:
            for line in (f"{name} = rail 1", f"{name} = a + b", f"c = {name} + a", f"c = a + {name}", f"c = {name} turned", f"drop {name}", f"{name} never a",
                         f"a never {name}", f"{name} same a", f"a same {name}", f"{name} most 0 2", f"{name} least 0 0", f"{name} before 0 at 1",
                         f"{name} limit 0", f"{name} less 0 a 0", f"a less 0 {name} 0"):
                self.assert_error(console, line, InvalidText, given=line)

    def test_other_values(self):
        console = filled_console()
        for value in [*NO_INTEGERS, *NO_RESISTANCES, *NO_PIECES, 0, b"undo", ["undo"], ("undo",), ("drop", "a"), console, console.bench, "Undo", "undo ", "redo"]:
            self.assert_error(console, value, InvalidText, given=value)

    def test_unknown_names(self):
        console = filled_console()
        for line, name in [
            ("c = x + y", "x"), ("c = a + y", "y"), ("x = x + a", "x"), ("c = x turned", "x"), ("x = x turned", "x"), ("drop x", "x"), ("x never y", "x"),
            ("a never y", "y"), ("x never a", "x"), ("x same y", "x"), ("a same y", "y"), ("x most 0 2", "x"), ("x least open 2", "x"), ("x before 0 at 100", "x"),
            ("x limit 3/2", "x"), ("x less 0 y 0", "x"), ("a less 0 y 0", "y"), ("x less 0 a 0", "x"), ("undo limit 0", "undo"), ("abcdefgh limit 0", "abcdefgh"),
            ("long = long + zz", "zz"), ("drop drop", "drop"),
        ]:
            self.assert_error(console, line, UnknownName, given=name)

    def test_unknown_names_in_an_empty_console(self):
        console = Console()
        self.assert_error(console, "a = a + a", UnknownName, given="a")
        self.assert_error(console, "undo", NothingToUndo)
        self.assertEqual(self.say(console, "a = rail 1"), "rail 1")
        self.assertEqual(text(OPEN), self.say(console, "a limit 0"))


if __name__ == "__main__":
    unittest.main()

import unittest
from random import Random

from bench_model import BenchModel, do_deed, state_of
from rungladders.benches import Bench
from rungladders.errors import NoAnswer, WrongName, WrongValue
from rungladders.patterns import Pattern
from samples import NO_RESISTANCES

NAMES = ["a", "b", "c", "dd", "drop"]
PATTERNS = [Pattern.read(text) for text in (
    "rail 1", "rail 2", "rung 2", "rung 3, rung 6", "rail 1, rung 1", "rail 1, rung 2", "rung 2, rail 1", "rail 3, rung 4, rail 5", "rail 1, rung 3, rung 6")]
RESISTANCES = [0, 1, 2, 5, (1, 2), (3, 2), (8, 4), (1, 0), 10 ** 12, (1, 10 ** 12)]


class Deeds:
    def __init__(self, seed):
        self.random = Random(seed)

    def name(self):
        return self.random.choice(NAMES) if self.random.randrange(12) else self.random.choice(["zz", "", "A", 5, None, ["a"], ("a",)])

    def claim(self):
        choose = self.random.choice
        if self.random.randrange(15) == 0:
            return choose([None, ("never", "a"), ("most", "a", 0), ("least", "a", choose(NO_RESISTANCES[:12]), 1), ["never", "a", "b"]])
        if self.random.randrange(2):
            return (choose(["never", "never", "same"]), self.name(), self.name())
        return (choose(["most", "least"]), self.name(), choose(RESISTANCES), choose(RESISTANCES))

    def deed(self):
        word = self.random.choice(["set", "set", "set", "claim", "claim", "claim", "claim", "lift", "drop", "undo"])
        if word == "set":
            return ("set", self.name(), self.random.choice(PATTERNS) if self.random.randrange(12) else self.random.choice([None, "rail 1", ("rail", 1)]))
        if word == "claim":
            return ("claim", self.claim())
        if word == "lift":
            return ("lift", self.random.choice([0, 0, 1, 2, 3, -1, True, None]))
        return ("drop", self.name()) if word == "drop" else ("undo",)


class HistoriesTest(unittest.TestCase):
    def assert_alike(self, bench, model):
        self.assertEqual(bench.names, tuple(sorted(model.patterns)))
        for name in NAMES:
            self.assertIs(name in bench, name in model.patterns)
        self.assertEqual([id(bench[name]) for name in bench.names], [id(model.patterns[name]) for name in bench.names])
        self.assertEqual([id(claim) for claim in bench.claims], [id(claim) for claim in model.claims])
        self.assertEqual((bench.changes, len(bench)), (len(model.past), len(model.patterns)))

    def do(self, bench, model, deed):
        expected = model.do(deed)
        try:
            self.assertIsNone(do_deed(bench, deed))
            told = None
        except (WrongValue, WrongName, NoAnswer) as error:
            told = (type(error), getattr(error, "given", getattr(error, "index", None)))
        self.assertEqual(told, expected, deed)
        self.assert_alike(bench, model)
        return told

    def test_long_histories(self):
        seen = set()
        for seed in range(12):
            bench, model, deeds = Bench(), BenchModel(), Deeds(seed)
            for _ in range(400):
                told = self.do(bench, model, deeds.deed())
                seen.add(told and told[0].__name__)
            while model.past:
                self.assertIsNone(self.do(bench, model, ("undo",)))
            self.assertEqual(state_of(bench), state_of(Bench()))
            self.assertIsNotNone(self.do(bench, model, ("undo",)))
        self.assertEqual(seen, {None, "InvalidName", "NotAPattern", "UnknownName", "InUse", "InvalidClaim", "Broken", "InvalidIndex", "NothingToUndo"})


if __name__ == "__main__":
    unittest.main()

import unittest

from rungladders import limits


class LimitsTest(unittest.TestCase):
    def test_each_constant(self):
        for name, value in [
            ("MOST_OHMS", 12), ("MOST_PIECES", 4), ("MOST_JOINED", 8), ("MOST_KINDS", 4), ("MOST_SECTIONS", 100),
            ("LAST", 1000), ("GREATEST", 1000000000000), ("OPEN", (1, 0)),
        ]:
            with self.subTest(name=name):
                self.assertEqual(getattr(limits, name), value)
                self.assertIs(type(getattr(limits, name)), type(value))


if __name__ == "__main__":
    unittest.main()

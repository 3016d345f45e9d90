import unittest

from model import ALL_PIECES, mixed_rows, text_of
from rungladders.errors import InvalidText
from rungladders.patterns import Pattern
from samples import NO_INTEGERS, NO_PIECES, NO_RESISTANCES


class ReadTest(unittest.TestCase):
    def check(self, row):
        text = text_of(row)
        for pattern in (Pattern.read(text), Pattern.read(text=text), Pattern(("rail", 1)).read(text)):
            self.assertIs(type(pattern), Pattern)
            self.assertEqual(pattern.pieces, row)
            self.assertEqual(str(pattern), text)

    def test_all_pieces(self):
        for piece in ALL_PIECES:
            self.check((piece,))
            self.check((("rung", 12), piece, ("rail", 1)))

    def test_one_to_eight_pieces(self):
        for length in range(1, 9):
            for row in mixed_rows(length, 40):
                self.check(row)

    def test_texts_of_patterns(self):
        for length in range(1, 5):
            for row in mixed_rows(length, 20):
                pattern = Pattern(*row)
                for made in (pattern, pattern.turned(), pattern + pattern):
                    read = Pattern.read(str(made))
                    self.assertEqual(read.pieces, made.pieces)
                    self.assertEqual(read.numbers, made.numbers)
                    self.assertEqual(read, made)

    def test_as_good_as_a_made_one(self):
        read = Pattern.read("rail 1, rung 1, rail 3, rung 2, rail 12")
        self.assertEqual((read + Pattern(("rung", 5))).pieces[4:], (("rail", 12), ("rung", 5)))
        self.assertEqual(str(read.turned()), "rail 12, rung 2, rail 3, rung 1, rail 1")
        self.assertEqual(len(read), 5)


class RefusedTest(unittest.TestCase):
    def assert_refused(self, value):
        for read in (lambda: Pattern.read(value), lambda: Pattern.read(text=value)):
            with self.assertRaises(InvalidText) as context:
                read()
            self.assertIs(context.exception.given, value)

    WRONG_PIECES = [
        "", " ", ",", ", ", "rail", "rung", "rail ", "rung ", " 1", "1", "rail1", "rung12", "1 rail", "rails 1", "rai 1",
        "bolt 1", "ladder 1", "open", "none", "r 1", "railrung 1", "rail rung 1", "rail 1 rung 1", "rail rail 1",
        "Rail 1", "RAIL 1", "raiL 1", "Rung 1", "RUNG 1", "rUng 1",
        "rail 0", "rung 0", "rail 13", "rung 13", "rail 20", "rail 100", "rung 111", "rail 1000000000000", "rail 1" + "0" * 5000,
        "rail 01", "rung 012", "rail 00", "rail 0001", "rail +1", "rung +12", "rail -1", "rail -0", "rail 1.0", "rail 1e0",
        "rail 1/1", "rail 2/2", "rail 1_0", "rail 1_2", "rail 0x1", "rail True", "rail one", "rail a", "rail (1)", "rail 1,0",
        "rail \u0661", "rail \uff11", "rung \u00b2", "rail \u2460", "rail \u0967", "rail 1\u0662",
        "\u0433ail 1", "rail\u00a01", "rail\u20031", "rail\t1", "rail\n1",
        " rail 1", "rail 1 ", "rail  1", "  rail 1", "rail 1\n", "\nrail 1", "rail 1\t", "rail 1\0", "\ufeffrail 1",
        "rail:1", "rail-1", "rail=1", "rail, 1", "rail,1", "rail.1", "'rail 1'", "\"rail 1\"", "(rail 1)", "rail 1.", "rail 1;",
        "('rail', 1)", "Pattern(rail 1)", "[rail 1]", "%s",
    ]

    def test_what_is_no_piece(self):
        for wrong in self.WRONG_PIECES:
            self.assert_refused(wrong)
            self.assert_refused(f"rail 1, {wrong}")
            self.assert_refused(f"{wrong}, rung 12")
            self.assert_refused(f"rail 3, {wrong}, rung 2")

    def test_between_the_pieces(self):
        for between in ["", ",", " ", ",  ", " ,", " , ", ", , ", ",,", ",, ", ", ,", ";", "; ", ".", ". ", " and ", "+", " + ", "\n",
                        ",\n", ",\t", ",\u00a0", "\u201a ", "\uff0c ", "|", "/", " - ", ", and "]:
            self.assert_refused(f"rail 1{between}rung 2")
            self.assert_refused(f"rail 1, rung 2{between}rail 3")
            self.assert_refused(f"rail 1{between}rung 2{between}rail 3")

    def test_around_the_pieces(self):
        for text in ("rail 1", "rail 1, rung 12"):
            for around in (" ", ",", ", ", "\n", ".", "\t", "(", ")", "'"):
                self.assert_refused(around + text)
                self.assert_refused(text + around)

    def test_each_character_changed(self):
        text = "rail 1, rung 12"
        allowed = {text_of((first, second)) for first in ALL_PIECES for second in ALL_PIECES}
        for at in range(len(text)):
            for changed in [text[:at] + text[at + 1:], text[:at] + text[at:].upper(),
                            *[text[:at] + sign + text[at + 1:] for sign in " ,;.0123456789aegilnruz\n"],
                            *[text[:at] + sign + text[at:] for sign in " ,;.0123456789aegilnruz\n"]]:
                if changed in allowed:
                    self.assertEqual(str(Pattern.read(changed)), changed)
                else:
                    self.assert_refused(changed)

    def test_more_than_eight(self):
        for length in (9, 10, 16, 100):
            for row in mixed_rows(length, 3):
                self.assert_refused(text_of(row))
        self.assert_refused(", ".join(["rail 1"] * 9))
        self.assertEqual(len(Pattern.read(", ".join(["rail 1"] * 8))), 8)

    def test_no_texts(self):
        pattern = Pattern(("rail", 1))
        for value in [*NO_INTEGERS, *NO_RESISTANCES, *NO_PIECES, 0, 1, b"rail 1", ["rail 1"], ("rail 1",), ("rail", 1),
                      (("rail", 1),), pattern, Pattern]:
            if not isinstance(value, str):
                self.assert_refused(value)


if __name__ == "__main__":
    unittest.main()

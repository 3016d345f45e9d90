import unittest

from number_samples import NUMBER_ROWS, beside_ends, is_held
from rungladders.numbers import Numbers

JOINED = [
    ("&", lambda a, b: a & b, lambda in_a, in_b: in_a and in_b),
    ("|", lambda a, b: a | b, lambda in_a, in_b: in_a or in_b),
    ("-", lambda a, b: a - b, lambda in_a, in_b: in_a and not in_b),
]


def small_rows():
    """The stretches of all sets of numbers below 6, with and without all numbers from 6 on."""
    rows = []
    for bits in range(128):
        held = [number for number in range(7) if bits >> number & 1]
        row = []
        for number in held:
            if row and row[-1][1] == number - 1:
                row[-1] = (row[-1][0], number)
            else:
                row.append((number, number))
        if 6 in held:
            row[-1] = (row[-1][0], None)
        rows.append(tuple(row))
    return rows


class JoinedTest(unittest.TestCase):
    def check_form(self, numbers):
        self.assertIs(type(numbers), Numbers)
        self.assertIs(type(numbers.stretches), tuple)
        self.assertEqual(Numbers(*numbers.stretches), numbers)

    def check_pair(self, row, other_row):
        a, b = Numbers(*row), Numbers(*other_row)
        for word, operation, wanted in JOINED:
            joined = operation(a, b)
            self.check_form(joined)
            for number in beside_ends(row, other_row, joined.stretches):
                expected = number >= 0 and wanted(is_held(row, number), is_held(other_row, number))
                self.assertIs(number in joined, expected, (row, word, other_row, number))
        self.assertEqual((a.stretches, b.stretches), (row, other_row))

    def test_all_pairs_of_samples(self):
        for row in NUMBER_ROWS:
            for other_row in NUMBER_ROWS:
                self.check_pair(row, other_row)

    def test_all_pairs_of_small_sets(self):
        rows = small_rows()
        at = {row: bits for bits, row in enumerate(rows)}
        self.assertEqual(len(at), 128)
        for bits, row in enumerate(rows):
            a = Numbers(*row)
            self.assertEqual((~a).stretches, rows[127 - bits])
            for other_bits, other_row in enumerate(rows):
                b = Numbers(*other_row)
                self.assertEqual((a & b).stretches, rows[bits & other_bits])
                self.assertEqual((a | b).stretches, rows[bits | other_bits])
                self.assertEqual((a - b).stretches, rows[bits & ~other_bits])

    def test_all_others(self):
        for row in NUMBER_ROWS:
            a = Numbers(*row)
            others = ~a
            self.check_form(others)
            for number in beside_ends(row):
                self.assertIs(number in others, number >= 0 and not is_held(row, number), (row, number))
            self.assertEqual(a.stretches, row)

    def test_one_set_taken_twice(self):
        for row in NUMBER_ROWS:
            a = Numbers(*row)
            self.assertEqual(a & a, a)
            self.assertEqual(a | a, a)
            self.assertEqual(a - a, Numbers())
            self.assertEqual(a.stretches, row)

    def test_laws(self):
        every, none = Numbers((0, None)), Numbers()
        for row in NUMBER_ROWS:
            a = Numbers(*row)
            self.assertEqual(~~a, a)
            self.assertEqual(a | ~a, every)
            self.assertEqual(a & ~a, none)
            self.assertEqual([a & every, a | none, a - none, a - every, every - a, a & none, a | every],
                             [a, a, a, none, ~a, none, every])
            for other_row in NUMBER_ROWS:
                b = Numbers(*other_row)
                self.assertEqual(a & b, b & a)
                self.assertEqual(a | b, b | a)
                self.assertEqual(~(a & b), ~a | ~b)
                self.assertEqual(~(a | b), ~a & ~b)
                self.assertEqual(a - b, a & ~b)
                self.assertEqual((a - b) | (a & b), a)

    def test_written_out(self):
        some, few = Numbers((0, 2), (5, None)), Numbers((1, 1), (4, 6))
        self.assertEqual([str(some & few), str(some | few), str(some - few), str(few - some), str(~some), str(~few)],
                         ["1, 5 to 6", "0 to 2, from 4", "0, 2, from 7", "4", "3 to 4", "0, 2 to 3, from 7"])
        self.assertEqual([str(~Numbers()), str(~Numbers((0, None))), str(~Numbers((0, 0))), str(~Numbers((1, None)))],
                         ["from 0", "none", "from 1", "0"])
        self.assertEqual(str(Numbers((0, 1)) | Numbers((2, 3))), "0 to 3")
        self.assertEqual(str(Numbers((0, 1), (3, None)) | Numbers((2, 2))), "from 0")

    def test_assigned_back(self):
        a = kept = Numbers((0, 5))
        a |= Numbers((7, None))
        a &= Numbers((3, 9))
        a -= Numbers((4, 4))
        self.assertEqual(a, Numbers((3, 3), (5, 5), (7, 9)))
        self.assertEqual(kept.stretches, ((0, 5),))


if __name__ == "__main__":
    unittest.main()

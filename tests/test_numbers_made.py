import inspect
import unittest
from itertools import islice

from number_samples import NUMBER_ROWS, beside_ends, first_numbers, is_held
from rungladders.errors import InvalidCount, InvalidStretches
from rungladders.numbers import Numbers
from samples import NO_COUNTS, NO_INTEGERS, EqualsAll, EqualsNothing, deep_tuple, others_than

GREAT = 10 ** 30


class MadeTest(unittest.TestCase):
    def test_stretches_smallest_endless_and_truth(self):
        for row in NUMBER_ROWS:
            numbers = Numbers(*row)
            with self.subTest(row=row):
                self.assertEqual(numbers.stretches, row)
                self.assertIs(type(numbers.stretches), tuple)
                self.assertEqual([type(stretch) for stretch in numbers.stretches], [tuple] * len(row))
                self.assertEqual(numbers.smallest, row[0][0] if row else None)
                self.assertIs(numbers.endless, bool(row) and row[-1][1] is None)
                self.assertIs(bool(numbers), bool(row))

    def test_written_out(self):
        for row, smallest, endless, text in [
            ((), None, False, "none"),
            (((0, 0),), 0, False, "0"),
            (((7, 7),), 7, False, "7"),
            (((2, 5),), 2, False, "2 to 5"),
            (((0, 1),), 0, False, "0 to 1"),
            (((9, None),), 9, True, "from 9"),
            (((0, None),), 0, True, "from 0"),
            (((7, 7), (9, None)), 7, True, "7, from 9"),
            (((0, 2), (5, None)), 0, True, "0 to 2, from 5"),
            (((0, 0), (2, 2), (4, 5), (7, 7), (9, 11)), 0, False, "0, 2, 4 to 5, 7, 9 to 11"),
            (((1, 2), (4, 4), (6, 6), (8, 9), (11, None)), 1, True, "1 to 2, 4, 6, 8 to 9, from 11"),
            (((GREAT, GREAT),), GREAT, False, "1" + "0" * 30),
            (((3, GREAT), (GREAT + 2, None)), 3, True, "3 to 1" + "0" * 30 + ", from 1" + "0" * 29 + "2"),
        ]:
            numbers = Numbers(*row)
            with self.subTest(text=text):
                self.assertEqual(numbers.smallest, smallest)
                self.assertIs(numbers.endless, endless)
                self.assertEqual(str(numbers), text)
                self.assertEqual(repr(numbers), f"Numbers({text})")

    def test_properties_are_not_assigned(self):
        for name in ("stretches", "smallest", "endless"):
            with self.assertRaises(AttributeError):
                setattr(Numbers((1, 2)), name, ())

    def test_stretches_are_passed_by_position_alone(self):
        with self.assertRaises(TypeError):
            Numbers(stretches=((1, 2),))


class HeldTest(unittest.TestCase):
    def test_integers_at_and_beside_each_end(self):
        for row in NUMBER_ROWS:
            numbers = Numbers(*row)
            for number in beside_ends(row):
                self.assertIs(number in numbers, is_held(row, number), (row, number))
                self.assertIs(number not in numbers, not is_held(row, number), (row, number))

    def test_negative_ones(self):
        for row in NUMBER_ROWS:
            for number in (-1, -2, -7, -GREAT):
                self.assertNotIn(number, Numbers(*row))

    def test_far_behind(self):
        for row in NUMBER_ROWS:
            self.assertIs(10 ** 40 in Numbers(*row), bool(row) and row[-1][1] is None)

    def test_values_of_other_kinds(self):
        for numbers in (Numbers((0, 0)), Numbers((1, 1)), Numbers((0, None)), Numbers((0, 3), (9, None)), Numbers()):
            for value in [*NO_INTEGERS, (0, 0), (0, None), [0], "0", 1.5, numbers]:
                self.assertIs(value in numbers, False, repr(value)[:50])


class EqualTest(unittest.TestCase):
    def test_equal_sets_alone(self):
        for at, row in enumerate(NUMBER_ROWS):
            for other_at, other_row in enumerate(NUMBER_ROWS):
                self.assertIs(Numbers(*row) == Numbers(*other_row), at == other_at, (row, other_row))
                self.assertIs(Numbers(*row) != Numbers(*other_row), at != other_at, (row, other_row))

    def test_equal_to_itself(self):
        for row in NUMBER_ROWS:
            numbers = Numbers(*row)
            self.assertIs(numbers == numbers, True)
            self.assertIs(numbers != numbers, False)

    def test_values_of_other_classes(self):
        for row in NUMBER_ROWS:
            numbers = Numbers(*row)
            for other in [*others_than(Numbers), row, list(row), str(numbers), repr(numbers), set(range(3))]:
                for a, b in ((numbers, other), (other, numbers)):
                    self.assertIs(a == b, False)
                    self.assertIs(a != b, True)
            for odd in (EqualsAll(), EqualsNothing()):
                self.assertIs(numbers == odd, False)
                self.assertIs(numbers != odd, True)


class AscendingTest(unittest.TestCase):
    def test_all_counts(self):
        rows = [*NUMBER_ROWS, ((0, 98),), ((0, 99),), ((0, 100),), ((3, 50), (60, 110)), ((0, 0), (2, 51), (60, 108)),
                tuple((2 * at, 2 * at) for at in range(100)), tuple((2 * at, 2 * at) for at in range(101))]
        for row in rows:
            for count in range(101):
                self.assertEqual(list(Numbers(*row).ascending(count)), first_numbers(row, count), (row, count))

    def test_by_name(self):
        numbers = Numbers((0, 2), (5, None))
        self.assertEqual(list(numbers.ascending(count=5)), [0, 1, 2, 5, 6])
        self.assertEqual(list(numbers.ascending(count=0)), [])

    def test_is_a_generator(self):
        numbers = Numbers((0, 2), (5, None))
        asked = numbers.ascending(100)
        self.assertTrue(inspect.isgenerator(asked))
        self.assertEqual(list(islice(asked, 4)), [0, 1, 2, 5])
        self.assertEqual(list(numbers.ascending(2)), [0, 1])
        self.assertEqual(next(asked), 6)

    def test_refused_at_the_first_element_at_the_latest(self):
        for numbers in (Numbers(), Numbers((0, 0)), Numbers((0, 2), (5, None))):
            for value in NO_COUNTS:
                with self.assertRaises(InvalidCount) as context:
                    next(numbers.ascending(value))
                self.assertIs(context.exception.given, value)
                with self.assertRaises(InvalidCount) as context:
                    next(numbers.ascending(count=value))
                self.assertIs(context.exception.given, value)


class RefusedTest(unittest.TestCase):
    def assert_refused(self, row, index):
        with self.assertRaises(InvalidStretches) as context:
            Numbers(*row)
        self.assertEqual(context.exception.index, index, row)
        self.assertIs(type(context.exception.index), int)

    WRONG = [
        True, False, None, 0, 1, 7, -1, "", "12", "none", "2 to 5", b"12", (), (1,), (20,), (20, 21, 22), (20, 21, None),
        [20, 21], [20, None], ((20, 21),), ((20, 21), (23, 24)), {20: 21}, {20, 21}, range(20, 22), object(), int,
        (True, 30), (False, 30), (20, True), (20, False), (True, None), (None, 20), (None, None), ("20", 21), (20, "21"),
        (20, (21,)), ((20,), 21), ([20], 21), (20, [21]), (-1, 30), (-1, None), (-3, -2), (-20, -10 ** 30),
        (20, 19), (20, 0), (20, -1), (GREAT, GREAT - 1), (20, EqualsAll()), (EqualsAll(), 21), (EqualsNothing(), None),
        (20, EqualsNothing()), EqualsAll(), EqualsNothing(), Numbers((20, 21)), deep_tuple(20),
    ]
    AHEAD = [(), ((0, 0),), ((0, 3),), ((0, 0), (2, 2)), ((0, 1), (3, 4), (6, 6), (8, 12))]
    BEHIND = [(), ((40, 41),), ((40, None),), (None,), ((40, 41), (42, 43)), ((41, 40), True)]

    def test_what_is_no_stretch(self):
        for ahead in self.AHEAD:
            for wrong in self.WRONG:
                for behind in self.BEHIND:
                    self.assert_refused((*ahead, wrong, *behind), len(ahead))

    def test_too_near_to_the_one_ahead(self):
        for ahead in self.AHEAD[1:]:
            last = ahead[-1][1]
            for first in range(last + 2):
                for wrong in ((first, first), (first, last + 5), (first, None), (first, GREAT)):
                    for behind in self.BEHIND:
                        self.assert_refused((*ahead, wrong, *behind), len(ahead))
            Numbers(*ahead, (last + 2, last + 2))
            Numbers(*ahead, (last + 2, None))

    def test_too_near_with_great_ends(self):
        for first in (0, 5, 6, GREAT - 1, GREAT, GREAT + 1):
            self.assert_refused(((5, GREAT), (first, GREAT + 9)), 1)
            self.assert_refused(((5, GREAT), (first, None)), 1)
        self.assertEqual(Numbers((5, GREAT), (GREAT + 2, None)).stretches, ((5, GREAT), (GREAT + 2, None)))

    def test_behind_one_without_an_end(self):
        for ahead in self.AHEAD:
            for wrong in [(40, 41), (30, 30), (32, None), (5, 6), (0, 0), (GREAT, None), *self.WRONG]:
                self.assert_refused((*ahead, (30, None), wrong), len(ahead) + 1)
                self.assert_refused((*ahead, (30, None), wrong, (60, 61)), len(ahead) + 1)

    def test_in_another_order(self):
        self.assert_refused(((5, 6), (1, 2)), 1)
        self.assert_refused(((1, 2), (8, 9), (4, 5)), 2)


if __name__ == "__main__":
    unittest.main()

import fractions
import unittest

from beststretch.errors import BadRow
from beststretch.rows import sums
from tests.helper import EDGE, small_rows


class SumsOfRows(unittest.TestCase):
    def test_ordinary_rows(self):
        self.assertEqual(sums([3, -1, 4, -1, 5]), [0, 3, 2, 6, 5, 10])
        self.assertEqual(sums([0, 0]), [0, 0, 0])
        self.assertEqual(sums([-2, -3]), [0, -2, -5])

    def test_the_row_of_no_number_has_one_sum(self):
        self.assertEqual(sums([]), [0])

    def test_one_number(self):
        self.assertEqual(sums([7]), [0, 7])

    def test_the_outermost_numbers_are_taken(self):
        self.assertEqual(sums([EDGE]), [0, EDGE])
        self.assertEqual(sums([-EDGE]), [0, -EDGE])
        self.assertEqual(sums([EDGE, EDGE, -EDGE]), [0, EDGE, 2 * EDGE, EDGE])

    def test_a_long_row(self):
        # assertEqual would tell the two long lists apart line by line, for hours.
        self.assertTrue(sums([EDGE] * 50000) == [EDGE * place for place in range(50001)])

    def test_every_small_row(self):
        for row in small_rows(range(5), (-2, 0, 1)):
            self.assertEqual(sums(row), [sum(row[:place]) for place in range(len(row) + 1)])

    def test_the_sums_are_a_list_of_whole_numbers(self):
        self.assertIs(type(sums([1, 2])), list)
        self.assertEqual([type(found) for found in sums([1, 2])], [int, int, int])


class SumsKeepNothing(unittest.TestCase):
    def test_the_row_stays_as_it_was(self):
        row = [3, -1, 4]
        sums(row)
        self.assertEqual(row, [3, -1, 4])

    def test_the_list_told_is_the_askers_own(self):
        for row in ([], [3, -1]):
            told = sums(row)
            kept = list(told)
            told.append(99)
            told[0] = 55
            self.assertEqual(sums(row), kept)
        self.assertIsNot(sums([]), sums([]))

    def test_a_row_changed_afterwards_changes_no_sums_told(self):
        row = [3, -1]
        told = sums(row)
        row[0] = 8
        row.append(1)
        self.assertEqual(told, [0, 3, 2])


class Bare:
    pass


class SumsRefuse(unittest.TestCase):
    def test_what_is_no_list(self):
        wrong = [None, True, False, 0, 5, 1.5, "", "12", b"12", (), (1, 2), {}, {1: 2}, {1, 2}, frozenset([1]),
                 range(3), iter([1, 2]), len, int, list, Bare(), bytearray(b"1"), (one for one in [1])]
        for row in wrong:
            with self.subTest(row=row):
                self.assertRaises(BadRow, sums, row)

    def test_a_number_beyond_the_bounds(self):
        for number in (EDGE + 1, -EDGE - 1, 10 ** 40, -10 ** 40):
            for row in ([number], [1, number], [number, 1], [1, number, 2]):
                with self.subTest(row=row):
                    self.assertRaises(BadRow, sums, row)

    def test_what_is_no_whole_number(self):
        wrong = [True, False, None, "", "1", b"1", 1.0, 0.5, float("nan"), float("inf"), 1j, [], [1], (), (1,), {},
                 {1}, fractions.Fraction(2), int, len, Bare()]
        for value in wrong:
            for row in ([value], [1, value], [value, 1], [1, value, 2]):
                with self.subTest(row=row):
                    self.assertRaises(BadRow, sums, row)

    def test_a_row_within_itself(self):
        row = [1]
        row.append(row)
        self.assertRaises(BadRow, sums, row)

    def test_a_refused_row_stays_as_it_was(self):
        row = [1, None, 2]
        self.assertRaises(BadRow, sums, row)
        self.assertEqual(row, [1, None, 2])

import unittest

from beststretch.answers import Exact, Never
from beststretch.exact import exact, how_many
from tests.helper import EDGE, longer_rows, never_by_words, small_rows, stretches_of, sums_of_stretches


class JustASum(unittest.TestCase):
    def look(self, row, total, found):
        """What is told, held against point [6] and against every stretch, whose sums are found."""
        told = exact(row, total)
        said = (row, total, vars(told))
        if total in found:
            self.assertIs(type(told), Exact, said)
            self.assertIn((told.first, told.many), stretches_of(row), said)
            self.assertEqual(sum(row[told.first:told.first + told.many]), total, said)
        else:
            self.assertIs(type(told), Never, said)
            self.assertTrue(never_by_words(told.table, row, total), said)
        self.assertIs(told.shows(row, total), True, said)
        self.assertEqual(how_many(row, total), found.count(total), said)

    def look_at_totals(self, row, totals):
        found = [one for one, many in sums_of_stretches(row)]
        for total in totals:
            self.look(row, total, found)

    def test_every_small_row_and_total(self):
        for row in small_rows(range(6), (-2, 0, 1)):
            self.look_at_totals(row, range(-11, 7))
        for row in small_rows(range(5), (-3, -1, 0, 2)):
            self.look_at_totals(row, range(-13, 10))

    def test_longer_rows(self):
        for row in longer_rows():
            found = sorted({one for one, many in sums_of_stretches(row)})
            some = found[::len(found) // 12 + 1]
            beside = [found[0] - 1, some[-1] + 1, found[-1] + 1, EDGE // 2 + 1]
            self.look_at_totals(row, some + beside + [0, row[0], row[-1], sum(row), 10 ** 30, -10 ** 30])

    def test_the_row_of_no_number(self):
        for total in (-10 ** 30, -1, 0, 1, 10 ** 30):
            self.look_at_totals([], [total])
            self.assertEqual(exact([], total).table, [(0, 0, 0)])
            self.assertEqual(how_many([], total), 0)

    def test_one_number(self):
        for number in (-EDGE, -1, 0, 1, EDGE):
            self.look_at_totals([number], [-EDGE - 1, -EDGE, -1, 0, 1, EDGE, EDGE + 1])
            told = exact([number], number)
            self.assertEqual((type(told), told.first, told.many), (Exact, 0, 1))
            self.assertEqual(how_many([number], number), 1)

    def test_a_total_of_0(self):
        told = exact([4, 1, -1], 0)
        self.assertEqual((told.first, told.many), (1, 2))
        self.assertIs(type(exact([4, 1, -2], 0)), Never)
        self.assertEqual(how_many([0, 0, 0], 0), 6)
        self.assertEqual(how_many([1, -1, 1, -1], 0), 4)
        self.assertEqual(how_many([1, 2], 0), 0)

    def test_totals_far_beyond_every_sum(self):
        for row in ([], [EDGE], [EDGE] * 63, [-EDGE] * 63, [5, -2, 4]):
            self.look_at_totals(row, [10 ** 30, -10 ** 30, 2 ** 61 - 1, 2 ** 64, -2 ** 64])
            self.assertEqual(how_many(row, 10 ** 30), 0)

    def test_the_outermost_numbers(self):
        for row in small_rows(range(1, 5), (-EDGE, 0, EDGE)):
            self.look_at_totals(row, [step * EDGE for step in range(-5, 6)] + [EDGE - 1, 1])

    def test_an_ordinary_row(self):
        told = exact([3, -1, 4], 2)
        self.assertEqual((told.first, told.many), (0, 2))
        told = exact([3, -1, 4], 5)
        self.assertEqual(told.table, [(0, 0, 0), (2, 2, 2), (3, 1, 1), (6, 3, 3)])
        self.assertEqual(exact([2, -2, 5], 1).table, [(0, 0, 2), (2, 1, 1), (5, 3, 3)])
        self.assertEqual(how_many([3, -1, 4, -1], 3), 3)

    def test_the_entries_of_the_table_are_tuples(self):
        for entry in exact([3, -1, 4], 5).table:
            self.assertIs(type(entry), tuple)
            self.assertEqual([type(one) for one in entry], [int, int, int])

    def test_how_many_is_a_whole_number(self):
        for row in ([], [1], [0, 0]):
            self.assertIs(type(how_many(row, 0)), int)

    def test_long_rows(self):
        row = [1] * 20000
        self.assertIs(exact(row, 0).shows(row, 0), True)
        told = exact(row, 20000)
        self.assertEqual((told.first, told.many), (0, 20000))
        self.assertEqual(how_many(row, 5000), 15001)
        self.assertEqual(how_many([0] * 20000, 0), 20000 * 20001 // 2)

    def test_what_is_handed_in_is_taken_by_name(self):
        self.assertEqual(exact(total=4, row=[4]).many, 1)
        self.assertEqual(how_many(total=4, row=[4]), 1)

import unittest

from beststretch.answers import Around, Best, Steep
from beststretch.telling import around, best, steepest
from tests.helper import (
    EDGE, bound_by_words, longer_rows, other_row, ring_numbers, ring_stretches, small_rows, stretches_of,
    sums_of_stretches, tops_by_words,
)

SMALL = (-2, -1, 0, 3)


class Telling(unittest.TestCase):
    def look_at_best(self, row, least, found):
        """What is told, held against point [4] and against every stretch, whose sums and counts are found."""
        told = best(row, least)
        said = (row, least, vars(told))
        self.assertIs(type(told), Best, said)
        self.assertIn((told.first, told.many), stretches_of(row, least), said)
        whole = sum(row[told.first:told.first + told.many])
        self.assertTrue(bound_by_words(told.lows, row, least, whole), said)
        self.assertEqual(whole, max(one for one, many in found if many >= least), said)
        self.assertIs(told.shows(row, least), True, said)

    def look_at_steepest(self, row, least, found):
        told = steepest(row, least)
        said = (row, least, vars(told))
        self.assertIs(type(told), Steep, said)
        self.assertIn((told.first, told.many), stretches_of(row, least), said)
        self.assertTrue(bound_by_words(told.lows, other_row(row, told.first, told.many), least, 0), said)
        whole = sum(row[told.first:told.first + told.many])
        self.assertTrue(all(one * told.many <= whole * many for one, many in found if many >= least), said)
        self.assertIs(told.shows(row, least), True, said)

    def look_at_both(self, row):
        found = sums_of_stretches(row)
        for least in range(1, len(row) + 1):
            self.look_at_best(row, least, found)
            self.look_at_steepest(row, least, found)

    def look_at_around(self, row):
        told = around(row)
        said = (row, vars(told))
        self.assertIs(type(told), Around, said)
        self.assertIn((told.first, told.many), ring_stretches(row), said)
        whole = sum(ring_numbers(row, told.first, told.many))
        self.assertTrue(bound_by_words(told.lows, row, 1, whole), said)
        self.assertTrue(tops_by_words(told.tops, row, whole), said)
        self.assertEqual(whole, max(sum(ring_numbers(row, *one)) for one in ring_stretches(row)), said)
        self.assertIs(told.shows(row), True, said)


class BestAndSteepest(Telling):
    def test_every_small_row_and_least_count(self):
        for row in small_rows(range(1, 6), SMALL):
            self.look_at_both(row)

    def test_longer_rows_and_every_least_count(self):
        for row in longer_rows():
            self.look_at_both(row)

    def test_an_ordinary_row(self):
        row = [3, -5, 4, -1, 2, -6, 1]
        told = best(row, 1)
        self.assertEqual((told.first, told.many), (2, 3))
        told = best(row, 4)
        self.assertEqual((told.first, told.many), (0, 5))
        told = steepest(row, 1)
        self.assertEqual((told.first, told.many), (2, 1))
        told = steepest(row, 2)
        self.assertEqual((told.first, told.many), (2, 3))

    def test_the_greatest_sum_is_not_the_greatest_mean(self):
        told = best([1, 3], 1)
        self.assertEqual((told.first, told.many), (0, 2))
        told = steepest([1, 3], 1)
        self.assertEqual((told.first, told.many), (1, 1))

    def test_a_longer_stretch_than_the_least_count_may_have_the_greatest_mean(self):
        told = steepest([5, 0, 5, -9], 2)
        self.assertEqual((told.first, told.many), (0, 3))

    def test_means_that_lie_close_together(self):
        row = [EDGE] * 30 + [EDGE - 1] + [EDGE] * 31 + [EDGE - 1]
        self.look_at_both(row)
        told = steepest(row, 32)
        self.assertEqual((told.first, told.many), (0, 62))

    def test_one_number(self):
        for number in (-EDGE, -1, 0, 1, EDGE):
            for told in (best([number], 1), steepest([number], 1)):
                self.assertEqual((told.first, told.many, told.lows), (0, 1, [0]))

    def test_the_outermost_numbers(self):
        for row in small_rows(range(1, 5), (-EDGE, 0, EDGE)):
            self.look_at_both(row)
        told = best([EDGE, -EDGE, EDGE, EDGE], 1)
        self.assertEqual(sum([EDGE, -EDGE, EDGE, EDGE][told.first:told.first + told.many]), 2 * EDGE)

    def test_the_count_of_all_numbers(self):
        for row in longer_rows():
            for told in (best(row, len(row)), steepest(row, len(row))):
                self.assertEqual((told.first, told.many, told.lows), (0, len(row), [0]))

    def test_all_below_0(self):
        told = best([-3, -2, -4], 1)
        self.assertEqual((told.first, told.many), (1, 1))
        told = best([-3, -2, -4], 2)
        self.assertEqual((told.first, told.many), (0, 2))

    def test_long_rows(self):
        row = [1, -2] * 15000 + [7]
        told = best(row, 1)
        self.assertEqual((told.first, told.many), (30000, 1))
        self.assertIs(told.shows(row, 1), True)
        row = [EDGE] * 15000 + [-EDGE] * 15000
        told = steepest(row, 15001)
        self.assertEqual((told.first, told.many), (0, 15001))
        self.assertIs(told.shows(row, 15001), True)

    def test_what_is_handed_in_is_taken_by_name(self):
        self.assertEqual(best(least=1, row=[4]).many, 1)
        self.assertEqual(steepest(least=1, row=[4]).many, 1)


class AroundTold(Telling):
    def test_every_small_row(self):
        for row in small_rows(range(1, 6), SMALL):
            self.look_at_around(row)

    def test_longer_rows(self):
        for row in longer_rows():
            self.look_at_around(row)

    def test_across_the_seam(self):
        told = around([4, -7, 1, 3])
        self.assertEqual((told.first, told.many), (2, 3))
        told = around([5, 2, -9, 1, -8, 6])
        self.assertEqual((told.first, told.many), (5, 3))

    def test_not_across_the_seam(self):
        told = around([-1, 5, 2, -3])
        self.assertEqual((told.first, told.many), (1, 2))

    def test_all_below_0(self):
        told = around([-3, -2, -4])
        self.assertEqual((told.first, told.many), (1, 1))

    def test_a_ring_of_one_number(self):
        for number in (-EDGE, -1, 0, 1, EDGE):
            told = around([number])
            self.assertEqual((told.first, told.many, told.lows, told.tops), (0, 1, [0], []))

    def test_a_ring_of_two_numbers(self):
        for row in small_rows([2], (-EDGE, -3, -1, 0, 2, EDGE)):
            self.look_at_around(row)
            self.assertEqual(around(row).tops, [])
        told = around([1, 2])
        self.assertEqual(told.many, 2)

    def test_a_ring_of_three_numbers(self):
        for row in small_rows([3], (-EDGE, -3, -1, 0, 2, EDGE)):
            self.look_at_around(row)
            self.assertEqual(len(around(row).tops), 1)
        told = around([1, -3, 2])
        self.assertEqual((told.first, told.many), (2, 2))

    def test_a_long_row(self):
        row = [1] * 10000 + [-1] * 10000 + [1] * 10000
        told = around(row)
        self.assertEqual((told.first, told.many), (20000, 20000))
        self.assertIs(told.shows(row), True)

    def test_what_is_handed_in_is_taken_by_name(self):
        self.assertEqual(around(row=[4]).many, 1)

import unittest
from fractions import Fraction

from beststretch.answers import Best, Steep
from tests.helper import (
    EDGE, bound_by_words, changed_by_one, lowest_lows, near_stretches, of_other_length, other_row, small_lists,
    small_rows, stretches_of,
)


def best_of(row, least):
    """A true Best, found by trying every stretch."""
    first, many = max(stretches_of(row, least), key=lambda one: sum(row[one[0]:one[0] + one[1]]))
    return Best(first, many, lowest_lows(row, least))


def steepest_of(row, least):
    """A true Steep, found by trying every stretch."""
    first, many = max(stretches_of(row, least), key=lambda one: Fraction(sum(row[one[0]:one[0] + one[1]]), one[1]))
    return Steep(first, many, lowest_lows(other_row(row, first, many), least))


class BestShows(unittest.TestCase):
    def test_an_ordinary_row(self):
        row = [3, -5, 4, -1, 2, -6, 1]
        self.assertIs(Best(2, 3, [0, 0, -2, -2, -2, -2, -3]).shows(row, 1), True)
        self.assertIs(Best(2, 2, [0, 0, -2, -2, -2, -2, -3]).shows(row, 1), False)
        self.assertIs(Best(2, 3, [0, 0, -2, -2]).shows(row, 4), False)
        self.assertIs(Best(0, 5, [0, 0, -2, -2]).shows(row, 4), True)

    def test_all_numbers_below_0(self):
        self.assertIs(Best(1, 1, [0, -3, -5]).shows([-3, -2, -4], 1), True)
        self.assertIs(Best(0, 1, [0, -3, -5]).shows([-3, -2, -4], 1), False)

    def test_lows_may_lie_deeper_than_need_be(self):
        self.assertIs(Best(0, 1, [0, -5, -5]).shows([9, -7, 1], 1), True)
        self.assertIs(Best(0, 1, [0, -5, -6]).shows([9, -7, 1], 1), True)
        self.assertIs(Best(0, 1, [0, -6, -7]).shows([9, -7, 1], 1), False)
        self.assertIs(Best(0, 1, [-1, -5, -5]).shows([9, -7, 1], 1), False)

    def test_lows_may_not_rise(self):
        self.assertIs(Best(0, 2, [-1, 0]).shows([1, 1], 1), False)
        self.assertIs(Best(1, 1, [-1, -1]).shows([-3, 9], 1), False)
        self.assertIs(Best(1, 1, [0, -3]).shows([-3, 9], 1), True)
        self.assertIs(Best(0, 1, [-5, -2]).shows([9, 0], 1), False)

    def test_one_number(self):
        for number in (-EDGE, -1, 0, 1, EDGE):
            self.assertIs(Best(0, 1, [0]).shows([number], 1), True)
            self.assertIs(Best(0, 1, [1]).shows([number], 1), False)
            self.assertIs(Best(0, 1, [-1]).shows([number], 1), False)

    def test_the_outermost_numbers(self):
        row = [EDGE, -EDGE, EDGE, EDGE]
        self.assertIs(Best(2, 2, [0, 0, 0, 0]).shows(row, 1), True)
        self.assertIs(Best(0, 4, [0]).shows(row, 4), True)
        self.assertIs(Best(0, 1, [0, 0, 0, 0]).shows(row, 1), False)

    def test_the_count_of_all_numbers(self):
        self.assertIs(Best(0, 3, [0]).shows([-1, -2, -3], 3), True)
        self.assertIs(Best(0, 2, [0]).shows([-1, -2, -3], 3), False)
        self.assertIs(Best(0, 3, [0, 0]).shows([-1, -2, -3], 3), False)

    def test_the_row_of_no_number_has_no_stretch(self):
        for lows in ([], [0]):
            for first, many in near_stretches([]):
                self.assertIs(Best(first, many, lows).shows([], 1), False)
                self.assertIs(Steep(first, many, lows).shows([], 1), False)

    def test_a_long_row(self):
        row = [1, -2] * 20000 + [7]
        self.assertIs(Best(40000, 1, [0, 0] + [-1 - place // 2 for place in range(39999)]).shows(row, 1), True)


class SteepShows(unittest.TestCase):
    def test_an_ordinary_row(self):
        row = [1, 4, 4, 1]
        self.assertIs(Steep(1, 1, [0, -3, -3, -3]).shows(row, 1), True)
        self.assertIs(Steep(1, 2, [0, -6, -6, -6]).shows(row, 1), True)
        self.assertIs(Steep(1, 2, [0, -6, -6]).shows(row, 2), True)
        self.assertIs(Steep(0, 2, [0, -3, -3]).shows(row, 2), False)
        self.assertIs(Steep(0, 3, [0, -6]).shows(row, 3), True)
        self.assertIs(Steep(0, 4, [0]).shows(row, 4), True)

    def test_the_greatest_sum_is_not_the_greatest_mean(self):
        self.assertIs(Steep(1, 1, [0, -2]).shows([1, 3], 1), True)
        for lows in small_lists(2, range(-5, 6)):
            self.assertIs(Steep(0, 2, lows).shows([1, 3], 1), False)

    def test_one_number(self):
        for number in (-EDGE, 0, EDGE):
            self.assertIs(Steep(0, 1, [0]).shows([number], 1), True)
            self.assertIs(Steep(0, 1, [1]).shows([number], 1), False)
            self.assertIs(Steep(0, 1, [-1]).shows([number], 1), False)

    def test_the_outermost_numbers(self):
        row = [-EDGE, EDGE, EDGE]
        self.assertIs(Steep(1, 2, [0, -4 * EDGE, -4 * EDGE]).shows(row, 1), True)
        self.assertIs(Steep(1, 2, [0, -4 * EDGE]).shows(row, 2), True)
        self.assertIs(Steep(0, 3, [0]).shows(row, 3), True)

    def test_a_long_row_of_outermost_numbers(self):
        row = [EDGE] * 20000 + [-EDGE] * 20000
        self.assertIs(Steep(0, 20000, [0] * 20001).shows(row, 20000), True)


class BothShow(unittest.TestCase):
    def test_a_true_answer_shows_for_every_small_row_and_least_count(self):
        for row in small_rows(range(1, 6), (-2, 0, 1)):
            for least in range(1, len(row) + 1):
                self.assertIs(best_of(row, least).shows(row, least), True, (row, least))
                self.assertIs(steepest_of(row, least).shows(row, least), True, (row, least))

    def test_every_small_answer_is_judged_by_the_words(self):
        for row in small_rows(range(1, 4), (-1, 0, 2)):
            for least in range(1, len(row) + 1):
                for lows in small_lists(len(row) + 1 - least, range(-3, 2)):
                    for first, many in stretches_of(row):
                        fits = many >= least
                        best = fits and bound_by_words(lows, row, least, sum(row[first:first + many]))
                        steep = fits and bound_by_words(lows, other_row(row, first, many), least, 0)
                        said = (row, least, first, many, lows)
                        self.assertIs(Best(first, many, lows).shows(row, least), best, said)
                        self.assertIs(Steep(first, many, lows).shows(row, least), steep, said)

    def test_what_shows_is_never_outdone(self):
        for row in small_rows(range(1, 4), (-2, 0, 1)):
            for least in range(1, len(row) + 1):
                fitting = [(sum(row[a:a + b]), b) for a, b in stretches_of(row, least)]
                for lows in small_lists(len(row) + 1 - least, range(-4, 2)):
                    for first, many in stretches_of(row):
                        reached = sum(row[first:first + many])
                        if Best(first, many, lows).shows(row, least):
                            self.assertEqual(reached, max(found for found, places in fitting))
                        if Steep(first, many, lows).shows(row, least):
                            self.assertTrue(all(found * many <= reached * places for found, places in fitting))

    def test_what_is_no_stretch_of_the_row(self):
        for row in ([5], [1, 2], [0, 0, 0], [-1, 0, -1]):
            for least in range(1, len(row) + 1):
                for first, many in near_stretches(row) + [(10 ** 30, 1), (0, 10 ** 30), (-10 ** 30, 10 ** 30)]:
                    if (first, many) not in stretches_of(row, least):
                        for lows in (lowest_lows(row, least), [0] * (len(row) + 1 - least), []):
                            self.assertIs(Best(first, many, lows).shows(row, least), False)
                            self.assertIs(Steep(first, many, lows).shows(row, least), False)

    def test_lists_of_another_length(self):
        for row in small_rows(range(1, 4), (-1, 0, 1)):
            for least in range(1, len(row) + 1):
                for made in (best_of(row, least), steepest_of(row, least)):
                    for lows in of_other_length(made.lows) + [[], made.lows * 5]:
                        made.lows = lows
                        self.assertIs(made.shows(row, least), False)

    def test_one_bound_changed_by_one(self):
        row = [1, -1, 1, -1]
        for lows in changed_by_one([0, 0, 0, 0]):
            expected = lows == [0, 0, 0, -1]
            self.assertIs(Best(0, 1, lows).shows(row, 1), expected, lows)
        for lows in changed_by_one([0, 0, 0]):
            self.assertIs(Best(0, 1, lows).shows([0, 0, 0], 1), False, lows)
            self.assertIs(Steep(0, 1, lows).shows([7, 7, 7], 1), False, lows)

    def test_a_least_count_beyond_the_bounds_is_not_refused(self):
        for least in (-2, -1, 3, 4, 9):
            for lows in ([], [0], [0, 0], [0, 0, 0], [0, 0, 0, 0], [0, 0, 0, 0, 0]):
                self.assertIs(Best(0, 2, lows).shows([0, 0], least), False)
                self.assertIs(Steep(0, 2, lows).shows([0, 0], least), False)

    def test_a_number_beyond_the_bounds_is_not_refused(self):
        self.assertIs(Best(0, 1, [0]).shows([EDGE + 1], 1), True)
        self.assertIs(Steep(0, 1, [0]).shows([-EDGE - 1], 1), True)

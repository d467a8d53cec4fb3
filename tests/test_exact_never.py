import unittest

from beststretch.answers import Exact, Never
from tests.helper import EDGE, near_stretches, never_by_words, small_lists, small_rows, stretches_of, sum_to


def never_of(row):
    """The closest table of a row: each sum with the first and the last place where it stands."""
    found = [sum_to(row, place) for place in range(len(row) + 1)]
    return [(one, found.index(one), len(row) - found[::-1].index(one)) for one in sorted(set(found))]


class ExactShows(unittest.TestCase):
    def test_an_ordinary_row(self):
        row = [3, -1, 4]
        self.assertIs(Exact(0, 2).shows(row, 2), True)
        self.assertIs(Exact(0, 2).shows(row, 3), False)
        self.assertIs(Exact(0, 3).shows(row, 6), True)
        self.assertIs(Exact(2, 1).shows(row, 4), True)
        self.assertIs(Exact(1, 2).shows(row, 2), False)

    def test_a_total_of_0(self):
        self.assertIs(Exact(0, 2).shows([1, -1], 0), True)
        self.assertIs(Exact(0, 1).shows([0], 0), True)
        self.assertIs(Exact(0, 1).shows([1], 0), False)

    def test_the_stretch_of_no_place_has_not_the_total_0(self):
        for row in ([], [0], [1, -1]):
            for first in range(-1, len(row) + 2):
                self.assertIs(Exact(first, 0).shows(row, 0), False)

    def test_the_outermost_numbers(self):
        self.assertIs(Exact(0, 2).shows([EDGE, EDGE, -EDGE], 2 * EDGE), True)
        self.assertIs(Exact(2, 1).shows([EDGE, EDGE, -EDGE], -EDGE), True)
        self.assertIs(Exact(0, 1).shows([EDGE], EDGE + 1), False)

    def test_every_small_stretch_and_total(self):
        for row in small_rows(range(5), (-1, 0, 2)):
            for first, many in near_stretches(row):
                for total in range(-4, 9):
                    fits = (first, many) in stretches_of(row)
                    expected = fits and sum(row[first:first + many]) == total
                    self.assertIs(Exact(first, many).shows(row, total), expected, (row, first, many, total))

    def test_far_places(self):
        for first, many in ((10 ** 30, 1), (0, 10 ** 30), (-10 ** 30, 10 ** 30), (-10 ** 30, 10 ** 30 + 1)):
            for total in (0, 1, 10 ** 30):
                self.assertIs(Exact(first, many).shows([0, 1], total), False)


class NeverShows(unittest.TestCase):
    def test_an_ordinary_row(self):
        table = [(0, 0, 0), (2, 2, 2), (3, 1, 1), (6, 3, 3)]
        for total in range(-9, 10):
            expected = total not in (3, 2, 6, -1, 4)
            self.assertIs(Never(table).shows([3, -1, 4], total), expected, total)

    def test_the_row_of_no_number(self):
        for total in (-1, 0, 1):
            self.assertIs(Never([(0, 0, 0)]).shows([], total), True)
            self.assertIs(Never([]).shows([], total), False)
            self.assertIs(Never([(1, 0, 0)]).shows([], total), False)
        self.assertIs(Never([(0, -1, 0)]).shows([], 0), False)
        self.assertIs(Never([(0, -1, 0)]).shows([], 1), True)
        self.assertIs(Never([(0, 1, 1)]).shows([], 1), False)
        self.assertIs(Never([(0, -1, -1)]).shows([], 1), False)

    def test_one_number(self):
        self.assertIs(Never([(0, 0, 0), (5, 1, 1)]).shows([5], 4), True)
        self.assertIs(Never([(0, 0, 0), (5, 1, 1)]).shows([5], 5), False)
        self.assertIs(Never([(0, 0, 0), (5, 1, 1)]).shows([5], -5), True)
        self.assertIs(Never([(0, 0, 0), (5, 1, 1)]).shows([5], 0), True)

    def test_a_total_of_0(self):
        self.assertIs(Never([(0, 0, 2), (1, 1, 1)]).shows([1, -1], 0), False)
        self.assertIs(Never([(0, 0, 0), (1, 1, 2)]).shows([1, 0], 0), False)
        self.assertIs(Never([(0, 0, 0), (1, 1, 1), (3, 2, 2)]).shows([1, 2], 0), True)

    def test_the_outermost_numbers(self):
        table = [(-EDGE, 1, 1), (0, 0, 2), (EDGE, 3, 3)]
        self.assertIs(Never(table).shows([-EDGE, EDGE, EDGE], EDGE + 1), True)
        self.assertIs(Never(table).shows([-EDGE, EDGE, EDGE], 2 * EDGE), False)
        self.assertIs(Never(table).shows([-EDGE, EDGE, EDGE], -2 * EDGE), True)

    def test_the_table_may_hold_more_than_the_sums(self):
        self.assertIs(Never([(-9, 7, -7), (0, 0, 0), (5, 1, 1), (90, -3, 44)]).shows([5], 4), True)

    def test_numbers_that_are_no_sums_count_too(self):
        self.assertIs(Never([(0, 0, 0), (4, 0, 1), (5, 1, 1)]).shows([5], 4), False)
        self.assertIs(Never([(0, 0, 0), (4, 0, 0), (5, 1, 1)]).shows([5], 4), True)
        self.assertIs(Never([(0, 0, 0), (5, 1, 1), (20, 3, 4)]).shows([5], 0), False)

    def test_first_and_last_may_be_whatever_they_are(self):
        self.assertIs(Never([(0, -10 ** 30, 0), (5, 1, 10 ** 30)]).shows([5], 4), True)
        self.assertIs(Never([(0, -10 ** 30, 0), (5, 1, 10 ** 30)]).shows([5], -5), True)
        self.assertIs(Never([(0, -10 ** 30, 0), (5, 1, 10 ** 30)]).shows([5], 0), False)
        self.assertIs(Never([(0, 0, 2), (5, 1, 1)]).shows([5], -5), False)

    def test_a_table_that_is_not_rising(self):
        self.assertIs(Never([(5, 1, 1), (0, 0, 0)]).shows([5], 4), False)
        self.assertIs(Never([(0, 0, 0), (0, 0, 0), (5, 1, 1)]).shows([5], 4), False)
        self.assertIs(Never([(0, 0, 0), (5, 1, 1), (5, 1, 1)]).shows([5], 4), False)
        self.assertIs(Never([(0, 0, 0), (5, 1, 1), (2, 0, 0)]).shows([5], 4), False)

    def test_a_table_that_lacks_a_sum(self):
        row = [3, -1, 4]
        table = never_of(row)
        for place in range(len(table)):
            self.assertIs(Never(table[:place] + table[place + 1:]).shows(row, 100), False)
        self.assertIs(Never([]).shows(row, 100), False)

    def test_one_bound_changed_by_one(self):
        row = [2, -2, 5]
        table = never_of(row)
        self.assertEqual(table, [(0, 0, 2), (2, 1, 1), (5, 3, 3)])
        for place, (number, first, last) in enumerate(table):
            for entry, expected in (
                ((number, first + 1, last), False), ((number, first, last - 1), False),
                ((number, first - 1, last), True), ((number, first, last + 1), True),
                ((number + 1, first, last), False), ((number - 1, first, last), False),
            ):
                changed = table[:place] + [entry] + table[place + 1:]
                self.assertIs(Never(changed).shows(row, 100), expected, changed)

    def test_a_true_answer_shows_for_every_small_row(self):
        for row in small_rows(range(6), (-2, 0, 1)):
            reached = [sum(row[first:first + many]) for first, many in stretches_of(row)]
            for total in range(-6, 7):
                self.assertIs(Never(never_of(row)).shows(row, total), total not in reached, (row, total))

    def test_every_small_table_is_judged_by_the_words(self):
        for row in small_rows(range(3), (-1, 0, 1)):
            found = sorted({sum_to(row, place) for place in range(len(row) + 1)})
            for spans in small_lists(2 * len(found), range(-1, 3)):
                table = list(zip(found, spans[::2], spans[1::2]))
                for total in (-1, 0, 1):
                    expected = never_by_words(table, row, total)
                    self.assertIs(Never(table).shows(row, total), expected, (table, row, total))

    def test_never_both(self):
        for row in small_rows(range(1, 3), (-1, 0, 1)):
            found = sorted({sum_to(row, place) for place in range(len(row) + 1)})
            reached = {sum(row[first:first + many]) for first, many in stretches_of(row)}
            for spans in small_lists(2 * len(found), range(3)):
                made = Never(list(zip(found, spans[::2], spans[1::2])))
                for total in reached:
                    self.assertIs(made.shows(row, total), False)

    def test_a_long_row(self):
        row = [1] * 30000
        table = [(place, place, place) for place in range(30001)]
        self.assertIs(Never(table).shows(row, 0), True)
        self.assertIs(Never(table).shows(row, 30000), False)
        self.assertIs(Never(table).shows(row, 30001), True)

    def test_a_number_beyond_the_bounds_is_not_refused(self):
        self.assertIs(Exact(0, 1).shows([EDGE + 1], EDGE + 1), True)
        self.assertIs(Never([(0, 0, 0), (EDGE + 1, 1, 1)]).shows([EDGE + 1], 1), True)

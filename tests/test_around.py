import unittest

from beststretch.answers import Around
from tests.helper import (
    EDGE, bound_by_words, changed_by_one, lowest_lows, near_stretches, of_other_length, ring_numbers, ring_stretches,
    small_lists, small_rows, tops_by_words, turned,
)


def around_of(row):
    """A true Around, found by trying every stretch of the ring."""
    first, many = max(ring_stretches(row), key=lambda one: sum(ring_numbers(row, *one)))
    tops = lowest_lows(turned(row), 1) if len(row) >= 3 else []
    return Around(first, many, lowest_lows(row, 1), tops)


class AroundShows(unittest.TestCase):
    def test_across_the_seam(self):
        row = [4, -7, 1, 3]
        self.assertIs(Around(2, 3, [0, 0, -3, -3], [0, 0]).shows(row), True)
        self.assertIs(Around(3, 2, [0, 0, -3, -3], [0, 0]).shows(row), False)
        self.assertIs(Around(0, 1, [0, 0, -3, -3], [0, 0]).shows(row), False)

    def test_not_across_the_seam(self):
        row = [-1, 5, 2, -3]
        self.assertIs(Around(1, 2, [0, -1, -1, -1], [0, -5]).shows(row), True)
        self.assertIs(Around(0, 4, [0, -1, -1, -1], [0, -5]).shows(row), False)

    def test_a_ring_of_one_number(self):
        for number in (-EDGE, -1, 0, 1, EDGE):
            self.assertIs(Around(0, 1, [0], []).shows([number]), True)
            self.assertIs(Around(0, 1, [0], [0]).shows([number]), False)
            self.assertIs(Around(0, 1, [], []).shows([number]), False)
            self.assertIs(Around(0, 2, [0], []).shows([number]), False)
            self.assertIs(Around(1, 1, [0], []).shows([number]), False)

    def test_a_ring_of_two_numbers(self):
        self.assertIs(Around(0, 2, [0, 0], []).shows([1, 2]), True)
        self.assertIs(Around(1, 2, [0, 0], []).shows([1, 2]), True)
        self.assertIs(Around(1, 1, [0, -1], []).shows([-1, 2]), True)
        self.assertIs(Around(1, 2, [0, -1], []).shows([-1, 2]), False)
        self.assertIs(Around(0, 2, [0, 0], [0]).shows([1, 2]), False)
        self.assertIs(Around(0, 3, [0, 0], []).shows([1, 2]), False)

    def test_a_ring_of_three_numbers(self):
        self.assertIs(Around(2, 2, [0, 0, -2], [0]).shows([1, -3, 2]), True)
        self.assertIs(Around(2, 1, [0, 0, -2], [0]).shows([1, -3, 2]), False)
        self.assertIs(Around(2, 2, [0, 0, -2], []).shows([1, -3, 2]), False)
        self.assertIs(Around(2, 2, [0, 0, -2], [0, 0]).shows([1, -3, 2]), False)
        self.assertIs(Around(1, 3, [0, 0, 0], [0]).shows([1, 0, 2]), True)
        self.assertIs(Around(1, 4, [0, 0, 0], [0]).shows([1, 0, 2]), False)

    def test_the_outermost_numbers(self):
        row = [EDGE, -EDGE, -EDGE, EDGE]
        self.assertIs(Around(3, 2, [0, 0, 0, -EDGE], [0, 0]).shows(row), True)
        self.assertIs(Around(0, 1, [0, 0, 0, -EDGE], [0, 0]).shows(row), False)

    def test_the_row_of_no_number_has_no_stretch(self):
        for first, many in near_stretches([]):
            for lows, tops in (([], []), ([0], []), ([0], [0])):
                self.assertIs(Around(first, many, lows, tops).shows([]), False)

    def test_a_true_answer_shows_for_every_small_row(self):
        for row in small_rows(range(1, 6), (-2, 0, 1)):
            self.assertIs(around_of(row).shows(row), True, row)

    def test_every_small_answer_is_judged_by_the_words(self):
        for row in small_rows(range(1, 4), (-1, 0, 2)):
            tops_lists = [[]] + [[top] for top in range(-3, 4)]
            for lows in small_lists(len(row), range(-2, 2)):
                for tops in tops_lists:
                    for first, many in ring_stretches(row):
                        reached = sum(ring_numbers(row, first, many))
                        expected = bound_by_words(lows, row, 1, reached) and tops_by_words(tops, row, reached)
                        said = (row, first, many, lows, tops)
                        self.assertIs(Around(first, many, lows, tops).shows(row), expected, said)

    def test_the_tops_of_longer_rows_are_judged_by_the_words(self):
        for row in small_rows([4], (-2, 0, 1)):
            made = around_of(row)
            reached = sum(ring_numbers(row, made.first, made.many))
            for tops in small_lists(2, range(-4, 4)):
                made.tops = tops
                self.assertIs(made.shows(row), tops_by_words(tops, row, reached), (row, tops))

    def test_what_shows_is_never_outdone(self):
        for row in small_rows(range(1, 4), (-2, 0, 1)):
            greatest = max(sum(ring_numbers(row, *one)) for one in ring_stretches(row))
            for lows in small_lists(len(row), range(-3, 2)):
                for tops in small_lists(max(len(row) - 2, 0), range(-3, 4)):
                    for first, many in ring_stretches(row):
                        if Around(first, many, lows, tops).shows(row):
                            self.assertEqual(sum(ring_numbers(row, first, many)), greatest)

    def test_what_is_no_stretch_of_the_ring(self):
        for row in ([0], [0, 0], [0, 0, 0], [0, 0, 0, 0]):
            tops = [0] * max(len(row) - 2, 0)
            for first, many in near_stretches(row) + [(10 ** 30, 1), (0, 10 ** 30), (-10 ** 30, 1)]:
                expected = (first, many) in ring_stretches(row)
                self.assertIs(Around(first, many, [0] * len(row), tops).shows(row), expected, (row, first, many))

    def test_lists_of_another_length(self):
        for row in small_rows(range(1, 5), (-1, 0, 1)):
            made = around_of(row)
            for lows in of_other_length(made.lows):
                self.assertIs(Around(made.first, made.many, lows, made.tops).shows(row), False)
            for tops in of_other_length(made.tops):
                self.assertIs(Around(made.first, made.many, made.lows, tops).shows(row), False)

    def test_one_bound_changed_by_one(self):
        row = [1, -1, -1, 1]
        for lows in changed_by_one([0, 0, 0, -1]):
            expected = bound_by_words(lows, row, 1, 2)
            self.assertIs(Around(3, 2, lows, [0, 0]).shows(row), expected, lows)
        for tops in changed_by_one([0, 0]):
            self.assertIs(Around(3, 2, [0, 0, 0, -1], tops).shows(row), tops == [0, 0], tops)

    def test_a_number_beyond_the_bounds_is_not_refused(self):
        self.assertIs(Around(0, 1, [0], []).shows([EDGE + 1]), True)

import itertools
import unittest

from beststretch.answers import Several
from tests.helper import (
    EDGE, changed_by_one, choices, of_other_length, reached, several_by_words, small_lists, small_rows, stretches_of,
)


def closest_bounds(row, price):
    """The least outs and ins that a price allows."""
    outs, ins = [0], []
    for number in row:
        ins.append(max([outs[-1] - price] + ins[-1:]) + number)
        outs.append(max(outs[-1], ins[-1]))
    return outs, ins


def true_answers(row, many):
    chosen = max(choices(row, many), key=lambda one: reached(row, one))
    for price in range(10):
        yield Several(chosen, price, *closest_bounds(row, price))


class SeveralShows(unittest.TestCase):
    def test_an_ordinary_row(self):
        row = [5, -2, 4, -9, 3]
        self.assertIs(Several([(0, 3)], 3, [0, 2, 2, 4, 4, 4], [2, 0, 4, -5, 4]).shows(row, 1), True)
        self.assertIs(Several([(0, 3), (4, 1)], 3, [0, 2, 2, 4, 4, 4], [2, 0, 4, -5, 4]).shows(row, 2), True)
        self.assertIs(Several([(0, 3), (4, 1)], 3, [0, 2, 2, 4, 4, 4], [2, 0, 4, -5, 4]).shows(row, 1), False)
        self.assertIs(Several([(0, 1), (2, 1), (4, 1)], 0, [0, 5, 5, 9, 9, 12], [5, 3, 9, 0, 12]).shows(row, 3), True)
        self.assertIs(Several([(0, 3), (4, 1)], 0, [0, 5, 5, 9, 9, 12], [5, 3, 9, 0, 12]).shows(row, 3), False)

    def test_the_count_0(self):
        self.assertIs(Several([], 5, [0, 0], [0]).shows([5], 0), True)
        self.assertIs(Several([], 4, [0, 1], [1]).shows([5], 0), False)
        self.assertIs(Several([(0, 1)], 5, [0, 0], [0]).shows([5], 0), False)
        self.assertIs(Several([], 0, [0], []).shows([], 0), True)

    def test_the_row_of_no_number(self):
        for many in (0, 1, 5):
            self.assertIs(Several([], 0, [0], []).shows([], many), True)
            self.assertIs(Several([], 0, [], []).shows([], many), False)
            self.assertIs(Several([], 0, [0, 0], []).shows([], many), False)
            self.assertIs(Several([], 0, [0], [0]).shows([], many), False)
            self.assertIs(Several([], 0, [1], []).shows([], many), False)
            self.assertIs(Several([], 0, [-1], []).shows([], many), False)
            self.assertIs(Several([], 1, [0], []).shows([], many), many == 0)
            self.assertIs(Several([(0, 1)], 0, [0], []).shows([], many), False)
            self.assertIs(Several([(0, 0)], 0, [0], []).shows([], many), False)

    def test_one_number(self):
        for number in (-EDGE, -1, 0, 1, EDGE):
            chosen = [(0, 1)] if number >= 0 else []
            self.assertIs(Several(chosen, 0, [0, max(number, 0)], [number]).shows([number], 1), True)
            self.assertIs(Several(chosen, 0, [0, max(number, 0)], [number - 1]).shows([number], 1), False)

    def test_a_count_greater_than_the_row_can_use(self):
        self.assertIs(Several([(0, 1)], 0, [0, 2, 2], [2, -1]).shows([2, -3], 10 ** 30), True)
        self.assertIs(Several([(0, 1)], 1, [0, 2, 2], [2, -1]).shows([2, -3], 10 ** 30), False)

    def test_a_count_below_0_is_not_refused(self):
        self.assertIs(Several([], 0, [0], []).shows([], -1), False)
        self.assertIs(Several([], 1, [0, 0], [0]).shows([1], -1), False)

    def test_a_price_below_0(self):
        self.assertIs(Several([], -1, [0], []).shows([], 0), False)
        self.assertIs(Several([], -1, [0], []).shows([], 5), False)
        self.assertIs(Several([(0, 1)], -1, [0, 3], [3]).shows([2], 1), False)

    def test_stretches_side_by_side_share_no_place(self):
        self.assertIs(Several([(0, 1), (1, 1)], 0, [0, 1, 3], [1, 3]).shows([1, 2], 2), True)

    def test_stretches_that_share_a_place_or_stand_in_another_order(self):
        row, outs, ins = [1, 0, 1], [0, 1, 1, 2], [1, 1, 2]
        self.assertIs(Several([(0, 1), (2, 1)], 0, outs, ins).shows(row, 2), True)
        for chosen in ([(2, 1), (0, 1)], [(0, 2), (1, 2)], [(0, 3), (1, 1)], [(0, 1), (0, 1)], [(2, 1), (2, 1)]):
            self.assertIs(Several(chosen, 0, outs, ins).shows(row, 2), False, chosen)
        self.assertIs(Several([(0, 2), (1, 1), (2, 1)], 0, outs, ins).shows(row, 3), False)

    def test_pairs_that_are_no_stretch_of_the_row(self):
        row, outs, ins = [0, 0], [0, 0, 0], [0, 0]
        for first in range(-3, 4):
            for count in range(-3, 5):
                expected = (first, count) in stretches_of(row)
                self.assertIs(Several([(first, count)], 0, outs, ins).shows(row, 2), expected, (first, count))
        for pair in ((10 ** 30, 1), (0, 10 ** 30), (-10 ** 30, 10 ** 30 + 1)):
            self.assertIs(Several([pair], 0, outs, ins).shows(row, 2), False)
        self.assertIs(Several([(0, 1), (2, 1)], 0, outs, ins).shows(row, 2), False)
        self.assertIs(Several([(0, 2), (1, 0)], 0, outs, ins).shows(row, 2), False)
        self.assertIs(Several([(0, 1), (1, -1)], 0, outs, ins).shows(row, 2), False)

    def test_lists_of_another_length(self):
        for row in ([], [3], [2, -1], [0, 0, 0]):
            for made in true_answers(row, 1):
                for outs in of_other_length(made.outs):
                    self.assertIs(Several(made.stretches, made.price, outs, made.ins).shows(row, 1), False)
                for ins in of_other_length(made.ins):
                    self.assertIs(Several(made.stretches, made.price, made.outs, ins).shows(row, 1), False)

    def test_one_bound_changed_by_one(self):
        row, chosen, price = [5, -2, 4, -9, 3], [(0, 3)], 3
        outs, ins = closest_bounds(row, price)
        for changed in changed_by_one(outs):
            expected = changed == [0, 2, 3, 4, 4, 4]
            self.assertIs(Several(chosen, price, changed, ins).shows(row, 1), expected, changed)
        for changed in changed_by_one(ins):
            expected = changed == [2, 0, 4, -4, 4]
            self.assertIs(Several(chosen, price, outs, changed).shows(row, 1), expected, changed)
        for other in (price - 1, price + 1):
            self.assertIs(Several(chosen, other, outs, ins).shows(row, 1), False)

    def test_a_first_out_other_than_0(self):
        self.assertIs(Several([(0, 1)], 0, [-1, 1], [1]).shows([1], 1), False)
        self.assertIs(Several([(0, 1)], 1, [1, 2], [2]).shows([2], 0), False)
        self.assertIs(Several([(0, 1)], 0, [1, 2], [3]).shows([2], 1), False)
        self.assertIs(Several([(0, 1)], 1, [1, 2], [2]).shows([2], 1), False)
        self.assertIs(Several([(0, 1)], 2, [1, 1], [1]).shows([2], 1), False)
        self.assertIs(Several([(0, 1)], 0, [2, 2], [2]).shows([0], 1), False)

    def test_the_outermost_numbers(self):
        row = [EDGE, -EDGE, EDGE]
        outs, ins = closest_bounds(row, EDGE)
        self.assertIs(Several([(0, 1)], EDGE, outs, ins).shows(row, 1), True)
        self.assertIs(Several([(0, 1), (2, 1)], EDGE, outs, ins).shows(row, 2), True)
        self.assertIs(Several([(0, 3)], EDGE, outs, ins).shows(row, 2), False)

    def test_some_price_shows_for_every_small_row_and_count(self):
        for row in small_rows(range(5), (-2, 0, 1)):
            for many in range(4):
                self.assertIn(True, [made.shows(row, many) for made in true_answers(row, many)], (row, many))

    def test_every_small_answer_is_judged_by_the_words(self):
        for row in small_rows(range(3), (-1, 1)):
            for many, price in itertools.product(range(3), range(-1, 2)):
                for bounds in small_lists(2 * len(row) + 1, range(-1, 3)):
                    outs, ins = bounds[:len(row) + 1], bounds[len(row) + 1:]
                    for chosen in choices(row, 2):
                        made = Several(chosen, price, outs, ins)
                        expected = several_by_words(made, row, many)
                        self.assertIs(made.shows(row, many), expected, (vars(made), row, many))

    def test_what_shows_is_never_outdone(self):
        for row in small_rows(range(3), (-1, 0, 2)):
            for many, price in itertools.product(range(3), range(3)):
                greatest = max(reached(row, chosen) for chosen in choices(row, many))
                for bounds in small_lists(2 * len(row) + 1, range(-1, 3)):
                    for chosen in choices(row, many):
                        made = Several(chosen, price, bounds[:len(row) + 1], bounds[len(row) + 1:])
                        if made.shows(row, many):
                            self.assertEqual(reached(row, chosen), greatest)

    def test_a_long_row(self):
        row = [1, -1] * 10000
        outs, ins = closest_bounds(row, 0)
        chosen = [(place, 1) for place in range(0, 20000, 2)]
        self.assertIs(Several(chosen, 0, outs, ins).shows(row, 10000), True)
        self.assertIs(Several(chosen[1:], 0, outs, ins).shows(row, 10000), False)

    def test_a_number_beyond_the_bounds_is_not_refused(self):
        self.assertIs(Several([(0, 1)], 0, [0, EDGE + 1], [EDGE + 1]).shows([EDGE + 1], 1), True)

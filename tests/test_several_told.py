import unittest

from beststretch.answers import Several
from beststretch.several import several
from tests.helper import EDGE, choices, longer_rows, mixed_row, reached, several_by_words, small_rows


def greatest_of_choices(row):
    """For each count up to the places the greatest sum, by going through all choices of stretches."""
    found = [0] * (len(row) + 1)
    for chosen in choices(row, len(row)):
        found[len(chosen)] = max(found[len(chosen)], reached(row, chosen))
    return [max(found[:count + 1]) for count in range(len(row) + 1)]


def greatest_by_counts(row):
    """The same for longer rows, by the greatest sums of the rows from the beginning, count by count."""
    closed, within = [0] * (len(row) + 1), [None] * (len(row) + 1)
    for number in row:
        for count in range(len(row), 0, -1):
            ahead = closed[count - 1] if within[count] is None else max(closed[count - 1], within[count])
            within[count] = ahead + number
        closed = [closed[0]] + [max(one, other) for one, other in zip(closed[1:], within[1:])]
    return closed


class SeveralTold(unittest.TestCase):
    def look(self, row, many, greatest):
        """What is told, held against point [7] and against the greatest sum there is."""
        told = several(row, many)
        said = (row, many, vars(told))
        self.assertIs(type(told), Several, said)
        self.assertTrue(several_by_words(told, row, many), said)
        self.assertEqual(reached(row, told.stretches), greatest, said)
        self.assertIs(told.shows(row, many), True, said)

    def look_at_counts(self, row, greatest):
        for many in range(len(row) + 1):
            self.look(row, many, greatest[many])
        for many in (len(row) + 1, len(row) + 2, 10 ** 30):
            self.look(row, many, greatest[-1])

    def test_every_small_row_and_count(self):
        for row in small_rows(range(6), (-2, -1, 0, 1)):
            self.look_at_counts(row, greatest_of_choices(row))
        for row in small_rows(range(5), (-4, -3, 0, 2, 3)):
            self.look_at_counts(row, greatest_of_choices(row))

    def test_rows_of_seven_numbers(self):
        for seed in range(40):
            for bound in (1, 3, EDGE):
                row = mixed_row(7, bound, seed)
                self.look_at_counts(row, greatest_of_choices(row))

    def test_the_two_ways_of_this_test_agree(self):
        for row in small_rows(range(5), (-2, 0, 1)):
            self.assertEqual(greatest_by_counts(row), greatest_of_choices(row))

    def test_longer_rows_and_every_count(self):
        for row in longer_rows():
            self.look_at_counts(row, greatest_by_counts(row))

    def test_rows_where_many_choices_have_the_same_sum(self):
        for row in ([1, -1] * 12, [2, -1, 0, -1] * 6, [1, 0, -1, 0] * 6, [3, -3, 3, -1] * 6, [-1, 1, 1, -1] * 6):
            self.look_at_counts(row, greatest_by_counts(row))

    def test_an_ordinary_row(self):
        row = [5, -2, 4, -9, 3]
        self.assertEqual(several(row, 0).stretches, [])
        self.assertEqual(several(row, 1).stretches, [(0, 3)])
        self.assertEqual(several(row, 2).stretches, [(0, 3), (4, 1)])
        self.assertEqual(several(row, 3).stretches, [(0, 1), (2, 1), (4, 1)])
        self.assertEqual(several(row, 9).stretches, [(0, 1), (2, 1), (4, 1)])

    def test_the_row_of_no_number(self):
        for many in (0, 1, 2, 10 ** 30):
            self.look([], many, 0)
            self.assertEqual(vars(several([], many)), {"stretches": [], "price": 0, "outs": [0], "ins": []})

    def test_one_number(self):
        for number in (-EDGE, -1, 0, 1, EDGE):
            self.look_at_counts([number], [0, max(number, 0)])

    def test_the_outermost_numbers(self):
        for row in small_rows(range(1, 5), (-EDGE, 0, EDGE)):
            self.look_at_counts(row, greatest_of_choices(row))

    def test_the_count_0(self):
        for row in longer_rows():
            told = several(row, 0)
            self.assertEqual((told.stretches, told.outs[-1]), ([], 0))

    def test_no_stretch_is_better_than_one_below_0(self):
        for many in (0, 1, 2, 7):
            self.assertEqual(several([-3, -1, -2], many).stretches, [])

    def test_the_stretches_are_pairs(self):
        told = several([5, -2, 4, -9, 3], 2)
        for one in told.stretches:
            self.assertIs(type(one), tuple)
            self.assertEqual([type(part) for part in one], [int, int])

    def test_long_rows(self):
        row = [2, -1] * 5000
        for many in (0, 1, 2500, 5000, 10 ** 6):
            told = several(row, many)
            self.assertIs(told.shows(row, many), True)
            self.assertEqual(reached(row, told.stretches), min(5000 + many, 10000) if many > 0 else 0)

    def test_what_is_handed_in_is_taken_by_name(self):
        self.assertEqual(several(many=1, row=[4]).stretches, [(0, 1)])

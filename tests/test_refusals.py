"""What each function refuses, and which of two refusals goes first."""

import unittest

from beststretch.errors import BadLeast, BadMany, BadRow, BadTotal
from beststretch.exact import exact, how_many
from beststretch.rows import sums
from beststretch.several import several
from beststretch.telling import around, best, steepest
from tests.helper import EDGE


class Bare:
    pass


NO_WHOLE_NUMBERS = [
    None, True, False, "", "1", "one", b"1", [], [1], (), (1,), {}, {1: 1}, {1}, frozenset(), range(1), 1.0, 0.5,
    float("nan"), float("inf"), 1j, int, len, Bare(),
]
NO_LISTS = [
    None, True, False, 0, 5, "", "12", b"12", (), (1, 2), {}, {1: 2}, {1, 2}, range(3), 1.5, list, len, Bare(),
]
WRONG_ROWS = NO_LISTS + [[number] for number in NO_WHOLE_NUMBERS + [EDGE + 1, -EDGE - 1, 10 ** 40, -10 ** 40]]
WRONG_ROWS += [[1, 2] + row for row in WRONG_ROWS if type(row) is list]
WRONG_ROWS += [row + [3] for row in WRONG_ROWS if type(row) is list]

# The function, an argument that fits beside the row of one number, and arguments that don't.
WITH_ANOTHER = [
    (best, 1, [0, 2, "1", None]), (steepest, 1, [0, 2, "1", None]), (exact, 0, ["1", None]),
    (how_many, 0, ["1", None]), (several, 0, [-1, "1", None]),
]
ROWS = ([1], [3, -1, 4], [0] * 10, [-EDGE, EDGE])


class Refusals(unittest.TestCase):
    def refuses(self, kind, function, *handed):
        with self.subTest(function=function.__name__, handed=handed):
            with self.assertRaises(kind) as caught:
                function(*handed)
            self.assertIs(type(caught.exception), kind)

    def test_a_wrong_row_alone(self):
        for row in WRONG_ROWS:
            self.refuses(BadRow, sums, row)
            self.refuses(BadRow, around, row)

    def test_a_wrong_row_beside_what_fits(self):
        for function, fitting, wrong in WITH_ANOTHER:
            for row in WRONG_ROWS:
                self.refuses(BadRow, function, row, fitting)

    def test_a_wrong_row_goes_first(self):
        for function, fitting, wrong in WITH_ANOTHER:
            for row in WRONG_ROWS:
                for other in wrong:
                    self.refuses(BadRow, function, row, other)

    def test_a_wrong_least_count(self):
        for function in (best, steepest):
            for row in ROWS:
                beyond = [0, -1, -len(row), len(row) + 1, 10 ** 30, -10 ** 30]
                for least in beyond + NO_WHOLE_NUMBERS:
                    self.refuses(BadLeast, function, row, least)

    def test_the_row_of_no_number_has_no_least_count(self):
        for function in (best, steepest):
            for least in [-1, 0, 1, 2] + NO_WHOLE_NUMBERS:
                self.refuses(BadLeast, function, [], least)

    def test_a_ring_of_no_number(self):
        self.refuses(BadLeast, around, [])

    def test_a_wrong_total(self):
        for function in (exact, how_many):
            for row in ([],) + ROWS:
                for total in NO_WHOLE_NUMBERS:
                    self.refuses(BadTotal, function, row, total)

    def test_a_wrong_count(self):
        for row in ([],) + ROWS:
            for many in [-1, -2, -10 ** 30] + NO_WHOLE_NUMBERS:
                self.refuses(BadMany, several, row, many)

    def test_what_is_just_within_the_bounds_is_not_refused(self):
        for row in ROWS:
            sums(row)
            around(row)
            for least in (1, len(row)):
                best(row, least)
                steepest(row, least)
            for number in (-10 ** 30, -1, 0, 10 ** 30):
                exact(row, number)
                how_many(row, number)
            for many in (0, 1, len(row) + 1, 10 ** 30):
                several(row, many)

    def test_what_is_refused_stays_as_it_was(self):
        row = [1, None, 2]
        for function in (sums, around):
            self.assertRaises(BadRow, function, row)
        for function, fitting, wrong in WITH_ANOTHER:
            self.assertRaises(BadRow, function, row, fitting)
            other = [1]
            self.assertRaises(ValueError, function, [1], other)
            self.assertEqual(other, [1])
        self.assertEqual(row, [1, None, 2])

"""What is handed in stays as it was, and what is told is new and the asker's own."""

import copy
import unittest

from beststretch.exact import exact, how_many
from beststretch.rows import sums
from beststretch.several import several
from beststretch.telling import around, best, steepest
from tests.helper import longer_rows

ROWS = ([7], [2, -5, 3], [4, -7, 1, 3], [0, 0, 0], [-3, -1, -2], [1, 1], [5, -2, 4, -9, 3])
TELLERS = {
    "best": lambda row: best(row, 1),
    "best of all": lambda row: best(row, len(row)),
    "steepest": lambda row: steepest(row, 1),
    "steepest of all": lambda row: steepest(row, len(row)),
    "around": around,
    "exact": lambda row: exact(row, row[0]),
    "never": lambda row: exact(row, 10 ** 30),
    "several of none": lambda row: several(row, 0),
    "several of one": lambda row: several(row, 1),
    "several of more": lambda row: several(row, 99),
}
OF_NO_NUMBER = {"never": lambda row: exact(row, 0), "several": lambda row: several(row, 2)}


def cases():
    for name, tell in TELLERS.items():
        for row in ROWS:
            yield name, tell, row
    for name, tell in OF_NO_NUMBER.items():
        yield name, tell, []


def lists_of(told):
    return [value for value in vars(told).values() if type(value) is list]


def change(numbers):
    for place in range(len(numbers)):
        numbers[place] = 77
    numbers.append(88)


class WhatIsToldIsNew(unittest.TestCase):
    def test_the_row_stays_as_it_was(self):
        for row in list(longer_rows()) + list(ROWS):
            given = list(row)
            for tell in list(TELLERS.values()) + [sums, lambda row: how_many(row, 0)]:
                tell(given)
                self.assertEqual(given, row)

    def test_each_list_is_a_list_and_each_else_a_whole_number(self):
        for name, tell, row in cases():
            for value in vars(tell(row)).values():
                with self.subTest(name=name, row=row):
                    self.assertIn(type(value), (int, list))
                    for part in value if type(value) is list else []:
                        self.assertIn(type(part), (int, tuple))

    def test_two_calls_tell_the_same_in_lists_of_their_own(self):
        for name, tell, row in cases():
            with self.subTest(name=name, row=row):
                one, other = tell(row), tell(row)
                self.assertIsNot(one, other)
                self.assertEqual(vars(one), vars(other))
                found = lists_of(one) + lists_of(other) + [row]
                self.assertEqual(len({id(each) for each in found}), len(found))

    def test_changing_what_is_told_changes_nothing_else(self):
        for name, tell, row in cases():
            with self.subTest(name=name, row=row):
                given, told = list(row), tell(row)
                before = copy.deepcopy(vars(told))
                for one in lists_of(told):
                    change(one)
                self.assertEqual(row, given)
                self.assertEqual(vars(tell(row)), before)

    def test_changing_the_row_changes_nothing_that_was_told(self):
        for name, tell, row in cases():
            with self.subTest(name=name, row=row):
                given = list(row)
                told = tell(given)
                before = copy.deepcopy(vars(told))
                change(given)
                self.assertEqual(vars(told), before)

    def test_the_lists_of_one_answer_are_not_one(self):
        for name, tell, row in cases():
            with self.subTest(name=name, row=row):
                told = tell(row)
                found = lists_of(told)
                for place, one in enumerate(found):
                    kept = [list(other) for other in found[place + 1:]]
                    change(one)
                    self.assertEqual(found[place + 1:], kept)

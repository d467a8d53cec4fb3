import unittest

from beststretch import answers
from beststretch.answers import Around, Best, Exact, Never, Several, Steep


class Classes(unittest.TestCase):
    def test_all_stand_straight_under_answer(self):
        self.assertEqual(answers.Answer.__bases__, (object,))
        for name in ("Best", "Steep", "Around", "Exact", "Never", "Several"):
            with self.subTest(name=name):
                self.assertEqual(getattr(answers, name).__bases__, (answers.Answer,))
                self.assertEqual(getattr(answers, name).__name__, name)

    def test_the_fields_are_those_handed_in(self):
        for kind in (Best, Steep):
            made = kind(2, 3, [0, -1])
            self.assertEqual(vars(made), {"first": 2, "many": 3, "lows": [0, -1]})
        self.assertEqual(vars(Around(2, 3, [0, -1], [4])), {"first": 2, "many": 3, "lows": [0, -1], "tops": [4]})
        self.assertEqual(vars(Exact(2, 3)), {"first": 2, "many": 3})
        self.assertEqual(vars(Never([(0, 1, 2)])), {"table": [(0, 1, 2)]})
        self.assertEqual(
            vars(Several([(0, 1)], 5, [0, 6], [7])), {"stretches": [(0, 1)], "price": 5, "outs": [0, 6], "ins": [7]}
        )

    def test_the_fields_are_taken_by_name(self):
        for kind in (Best, Steep):
            self.assertEqual(kind(lows=[4], many=3, first=2).first, 2)
        self.assertEqual(Around(tops=[5], lows=[4], many=3, first=2).tops, [5])
        self.assertEqual(Exact(many=3, first=2).many, 3)
        self.assertEqual(Never(table=[(1, 2, 3)]).table, [(1, 2, 3)])
        self.assertEqual(Several(ins=[4], outs=[3], price=2, stretches=[(0, 1)]).outs, [3])

    def test_any_fields_may_be_made(self):
        Best(-5, 0, [])
        Steep(-5, 0, [])
        Around(-5, 0, [], [])
        Exact(-5, 0)
        Never([])
        Several([], -5, [], [])

    def test_what_is_asked_is_taken_by_name(self):
        self.assertIs(Best(0, 1, [0]).shows(row=[1], least=1), True)
        self.assertIs(Steep(0, 1, [0]).shows(row=[1], least=1), True)
        self.assertIs(Around(0, 1, [0], []).shows(row=[1]), True)
        self.assertIs(Exact(0, 1).shows(row=[1], total=1), True)
        self.assertIs(Never([(0, 0, 0), (1, 1, 1)]).shows(row=[1], total=2), True)
        self.assertIs(Several([(0, 1)], 0, [0, 1], [1]).shows(row=[1], many=1), True)


class FieldsAreCopies(unittest.TestCase):
    def test_lows_of_best_and_steep(self):
        for kind in (Best, Steep):
            for lows in ([0], []):
                given = list(lows)
                made = kind(0, 1, given)
                before = made.shows([1], 1)
                given.append(9)
                given[0] = 8
                self.assertEqual(made.lows, lows)
                self.assertIs(made.shows([1], 1), before)
                made.lows.append(7)
                self.assertNotIn(7, given)

    def test_lows_and_tops_of_around(self):
        lows, tops = [0, 0, 0], [0]
        made = Around(0, 3, lows, tops)
        self.assertTrue(made.shows([1, 2, 3]))
        lows[0] = 9
        tops.append(9)
        self.assertEqual((made.lows, made.tops), ([0, 0, 0], [0]))
        self.assertTrue(made.shows([1, 2, 3]))
        made.lows.append(7)
        made.tops.append(7)
        self.assertEqual((lows, tops), ([9, 0, 0], [0, 9]))

    def test_one_list_handed_in_twice_becomes_two(self):
        same = [0]
        made = Around(0, 1, same, same)
        made.lows.append(1)
        self.assertEqual((made.tops, same), ([0], [0]))
        several = Several([], 0, same, same)
        several.outs.append(1)
        self.assertEqual((several.ins, same), ([0], [0]))

    def test_the_table_of_never(self):
        table = [(0, 0, 0), (1, 1, 1)]
        made = Never(table)
        table.append((2, 0, 0))
        table[0] = (0, 5, 5)
        self.assertEqual(made.table, [(0, 0, 0), (1, 1, 1)])
        self.assertTrue(made.shows([1], 2))
        made.table.append((9, 9, 9))
        self.assertEqual(table, [(0, 5, 5), (1, 1, 1), (2, 0, 0)])

    def test_the_lists_of_several(self):
        stretches, outs, ins = [(0, 1)], [0, 1], [1]
        made = Several(stretches, 0, outs, ins)
        stretches.append((0, 1))
        outs[0] = -1
        ins.append(5)
        self.assertEqual((made.stretches, made.outs, made.ins), ([(0, 1)], [0, 1], [1]))
        self.assertTrue(made.shows([1], 1))
        made.stretches.append((7, 7))
        made.outs.append(7)
        made.ins.append(7)
        self.assertEqual((stretches, outs, ins), ([(0, 1), (0, 1)], [-1, 1], [1, 5]))


class ShownByTheFieldsAsTheyStand(unittest.TestCase):
    def after(self, made, asked, name, value):
        """Whether it shows when asked first, with a field changed, and with the field set back."""
        kept = getattr(made, name)
        found = [made.shows(*asked)]
        setattr(made, name, value)
        found.append(made.shows(*asked))
        setattr(made, name, kept)
        found.append(made.shows(*asked))
        return found

    def test_each_field_set_anew(self):
        row = [2, -5, 3]
        cases = [
            (Best(2, 1, [0, 0, -3]), (row, 1), {"first": 0, "many": 2, "lows": [0, 0]}),
            (Steep(2, 1, [0, -1, -9]), (row, 1), {"first": 0, "many": 2, "lows": [0, -1]}),
            (Around(2, 2, [0, 0, -3], [0]), (row,), {"first": 0, "many": 1, "lows": [0, 0, 0], "tops": []}),
            (Exact(2, 1), (row, 3), {"first": 0, "many": 2}),
            (Never([(-3, 2, 2), (0, 0, 3), (2, 1, 1)]), (row, 1), {"table": [(-3, 2, 2), (0, 0, 3)]}),
            (Several([(0, 1), (2, 1)], 0, [0, 2, 2, 5], [2, -3, 5]), (row, 2),
             {"stretches": [(0, 1)], "price": 1, "outs": [0, 2, 2, 6], "ins": [2, -3, 4]}),
        ]
        for made, asked, fields in cases:
            self.assertEqual(set(vars(made)), set(fields))
            for name, value in fields.items():
                with self.subTest(kind=type(made).__name__, name=name):
                    self.assertEqual(self.after(made, asked, name, value), [True, False, True])

    def test_a_list_changed_where_it_stands(self):
        made = Best(0, 1, [])
        self.assertIs(made.shows([4], 1), False)
        made.lows.append(0)
        self.assertIs(made.shows([4], 1), True)
        made.lows[0] = 1
        self.assertIs(made.shows([4], 1), False)

    def test_it_may_show_of_one_row_and_not_of_another(self):
        made = Best(0, 1, [0])
        self.assertEqual([made.shows([4], 1), made.shows([4, 1], 1), made.shows([4], 1)], [True, False, True])


class AskingChangesNothing(unittest.TestCase):
    def test_row_and_fields_stay(self):
        made_and_asked = [
            (Best(0, 1, [0, 0]), (1,)), (Steep(0, 1, [0, 0]), (1,)), (Around(0, 2, [0, 0], []), ()),
            (Exact(0, 2), (3,)), (Never([(0, 0, 0), (1, 1, 1), (3, 2, 2)]), (7,)),
            (Several([(0, 2)], 0, [0, 1, 3], [1, 3]), (1,)),
        ]
        for made, asked in made_and_asked:
            with self.subTest(kind=type(made).__name__):
                row = [1, 2]
                before = repr(vars(made))
                self.assertIs(made.shows(row, *asked), made.shows(row, *asked))
                self.assertEqual(row, [1, 2])
                self.assertEqual(repr(vars(made)), before)
                self.assertTrue(all(value is not row for value in vars(made).values()))

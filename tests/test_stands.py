import copy
import itertools
import unittest

from oracle import BIG, MANY_TABLES, ODD_THINGS, just_tuples, numbers_table, random_paper, stand_told
from cornersteps.errors import CornerError, NoPaper, NoStep
from cornersteps.sizes import square_bound, sum_bound
from cornersteps.stands import first_stand, is_form, stepped

TABLE = ((1, -2, 3), (4, 5, 0))
NUMBERS = ((9, 8, 7), (6, 5, 4))


class FormTest(unittest.TestCase):
    def test_stands_are_of_the_form(self):
        for seed, table in enumerate(MANY_TABLES):
            self.assertIs(True, is_form(table, first_stand(table)))
            for stand in random_paper(table, seed, 5):
                self.assertIs(True, is_form(table, stand))

    def test_the_form_looks_at_no_corner(self):
        forms = [
            ((), 0, NUMBERS), ((), -5, NUMBERS), ((), 10 ** 399, NUMBERS), (((1, 2),), 1, NUMBERS),
            (((0, 0),), 0, TABLE), (((1, 0), (0, 1)), 77, ((0, 0, 0), (0, 0, 0))), (((0, 2), (1, 0)), 1, TABLE),
            (((0, 0), (1, 1)), BIG, ((10 ** 399, 0, 0), (-(10 ** 399), 0, 0))),
        ]
        for thing in forms:
            self.assertIs(True, is_form(TABLE, thing), thing)

    def test_near_misses_are_not_of_the_form(self):
        misses = [
            [(), 1, TABLE], ([], 1, TABLE), ((), 1, list(TABLE)), ((), 1, ([1, -2, 3], [4, 5, 0])),
            ((), 1), ((), 1, TABLE, TABLE), ((),), (1, TABLE), ((), TABLE, 1),
            (((0, 0), (0, 0)), 1, TABLE), (((0, 0), (0, 1)), 1, TABLE), (((0, 0), (1, 0)), 1, TABLE),
            (((2, 0),), 1, TABLE), (((0, 3),), 1, TABLE), (((-1, 0),), 1, TABLE), (((0, -1),), 1, TABLE),
            (((0, 0), (2, 1)), 1, TABLE), (((0, 0), (1, 3)), 1, TABLE), (((10 ** 399, 0),), 1, TABLE),
            (((True, 0),), 1, TABLE), (((0, True),), 1, TABLE), (((False, 0),), 1, TABLE), (((0, False),), 1, TABLE),
            (((1, 1), (0, False)), 1, TABLE), (([0, 0],), 1, TABLE), ([(0, 0)], 1, TABLE), (((0,),), 1, TABLE),
            (((0, 0, 0),), 1, TABLE), (((),), 1, TABLE), ((0, 0), 1, TABLE), ((None,), 1, TABLE), (("00",), 1, TABLE),
            ((("0", 0),), 1, TABLE), (((0, None),), 1, TABLE), ((((0,), 0),), 1, TABLE), ((([], {}),), 1, TABLE),
            (None, 1, TABLE), ("", 1, TABLE), ({}, 1, TABLE), (True, 1, TABLE), (0, 1, TABLE),
            ((), True, TABLE), ((), False, TABLE), ((), None, TABLE), ((), "1", TABLE), ((), (1,), TABLE),
            ((), [], TABLE), ((), {}, TABLE),
            ((), 1, TABLE[:1]), ((), 1, TABLE + ((1, 1, 1),)), ((), 1, ((1, 2), (3, 4))),
            ((), 1, ((1, 2, 3, 4), (5, 6, 7, 8))), ((), 1, ((1, -2, 3), (4, 5))), ((), 1, ((1, -2, 3), [4, 5, 0])),
            ((), 1, ((True, -2, 3), (4, 5, 0))), ((), 1, ((1, -2, 3), (4, 5, False))), ((), 1, ()), ((), 1, ((), ())),
            ((), 1, ((1, -2, 3), (4, 5, None))), ((), 1, ((1, -2, 3), (4, "5", 0))), ((), 1, None), ((), 1, 1),
            ((), 1, "x"), ((), 1, {}), ((), 1, True), ((), 1, ((1, 4), (-2, 5), (3, 0))),
        ]
        for thing in misses + ODD_THINGS + list(TABLE) + [TABLE]:
            self.assertIs(False, is_form(TABLE, thing), thing)

    def test_rows_and_columns_have_their_own_bounds(self):
        tall = ((1, 4), (-2, 5), (3, 0))
        self.assertIs(True, is_form(tall, (((2, 1),), 1, tall)))
        self.assertIs(False, is_form(tall, (((1, 2),), 1, tall)))
        self.assertIs(True, is_form(TABLE, (((1, 2),), 1, TABLE)))
        self.assertIs(False, is_form(TABLE, (((2, 1),), 1, TABLE)))

    def test_what_is_asked_stays_and_is_told_alike_again(self):
        for thing in ODD_THINGS + [([], [1], [[1]]), first_stand(TABLE)]:
            kept = repr(thing)
            self.assertEqual(is_form(TABLE, thing), is_form(TABLE, thing))
            self.assertEqual(kept, repr(thing))


class StepTest(unittest.TestCase):
    def test_first_stand(self):
        for table in MANY_TABLES:
            told = first_stand(table)
            self.assertEqual(((), 1, table), told)
            self.assertTrue(just_tuples(told))
            self.assertEqual(stand_told(table, ()), told)

    def test_two_steps_by_hand(self):
        first = first_stand(((1, 2), (3, 4)))
        second = stepped(first, 0, 0)
        self.assertEqual((((0, 0),), 1, ((1, 2), (0, -2))), second)
        self.assertEqual((((0, 0), (1, 1)), -2, ((-2, 0), (0, -2))), stepped(second, 1, 1))
        other = stepped(first, 1, 0)
        self.assertEqual((((1, 0),), 3, ((0, 2), (3, 4))), other)
        self.assertEqual((((1, 0), (0, 1)), 2, ((0, 2), (2, 0))), stepped(other, 0, 1))

    def test_steps_at_all_pairs_one_behind_the_other(self):
        for table in [((2, -3, 5), (7, 0, -1), (4, 6, 8)), ((0, 1, 2, -3), (4, -5, 0, 6)), ((5,), (-2,), (0,))]:
            stands = [first_stand(table)]
            while stands:
                stand = stands.pop()
                self.assertEqual(stand_told(table, stand[0]), stand)
                self.assertTrue(just_tuples(stand))
                rows = [i for i in range(len(table)) if i not in [pair[0] for pair in stand[0]]]
                columns = [j for j in range(len(table[0])) if j not in [pair[1] for pair in stand[0]]]
                for row, column in itertools.product(rows, columns):
                    if stand[2][row][column] != 0:
                        behind = stepped(stand, row, column)
                        self.assertEqual(stand[0] + ((row, column),), behind[0])
                        stands.append(behind)

    def test_steps_at_any_pairs_of_many_tables(self):
        for seed, table in enumerate(MANY_TABLES):
            for turn in range(3):
                paper = random_paper(table, seed * 10 + turn, 5)
                stand = first_stand(table)
                for told in paper[1:]:
                    stand = stepped(stand, *told[0][-1])
                    self.assertEqual(told, stand)
                    self.assertTrue(just_tuples(stand))

    def test_steps_of_the_widest_tables(self):
        table = numbers_table(21, 6, 12, 10 ** 400 - 1)
        stand = first_stand(table)
        for row, column in [(5, 11), (0, 3), (2, 0), (4, 7), (1, 8), (3, 2)]:
            stand = stepped(stand, row, column)
        picked, under, numbers = stand
        self.assertEqual(stand_told(table, picked)[1], under)
        for row, column in picked:
            self.assertEqual([under if i == row else 0 for i in range(6)], [line[column] for line in numbers])

    def test_numbers_are_within_the_bounds(self):
        for seed, table in enumerate(MANY_TABLES):
            stand = first_stand(table)
            for told in random_paper(table, seed, 5)[1:]:
                stand = stepped(stand, *told[0][-1])
                rows, columns = [pair[0] for pair in stand[0]], [pair[1] for pair in stand[0]]
                self.assertLessEqual(abs(stand[1]), sum_bound(table, (rows, columns)))
                for i, line in enumerate(stand[2]):
                    for j, number in enumerate(line):
                        if i not in rows and j not in columns:
                            pick = (rows + [i], columns + [j])
                            self.assertLessEqual(abs(number), sum_bound(table, pick))
                            self.assertLessEqual(number * number, square_bound(table, pick))

    def test_no_step(self):
        table = ((1, 2, 0), (0, 4, 5), (2, 4, 6))
        behind = stepped(first_stand(table), 0, 0)
        refused = [
            (first_stand(table), 0, 2), (first_stand(table), 1, 0), (behind, 0, 0), (behind, 0, 1), (behind, 0, 2),
            (behind, 1, 0), (behind, 2, 0), (behind, 2, 1), (first_stand(((0,),)), 0, 0),
        ]
        for stand, row, column in refused:
            kept = copy.deepcopy(stand)
            with self.assertRaises(NoStep) as caught:
                stepped(stand, row, column)
            self.assertEqual((row, column), (caught.exception.row, caught.exception.column))
            self.assertIs(NoStep, type(caught.exception))
            self.assertIsInstance(caught.exception, CornerError)
            self.assertNotIsInstance(caught.exception, NoPaper)
            self.assertEqual(kept, stand)

    def test_a_picked_row_refuses_where_its_number_is_not_nought(self):
        behind = stepped(first_stand(((1, 2), (3, 4))), 0, 0)
        self.assertNotEqual(0, behind[2][0][1])
        with self.assertRaises(NoStep):
            stepped(behind, 0, 1)

    def test_a_picked_column_refuses_where_its_number_is_not_nought(self):
        # A stand has noughts there, so only a number that is no corner tells the two reasons apart.
        with self.assertRaises(NoStep):
            stepped((((0, 0),), 1, ((1, 2), (3, 4))), 1, 0)

    def test_what_is_handed_in_stays_and_is_told_alike_again(self):
        stand = stepped(first_stand(((3, 1, 2), (4, 1, 5))), 1, 2)
        kept = copy.deepcopy(stand)
        told = stepped(stand, 0, 0)
        self.assertEqual(kept, stand)
        self.assertEqual(told, stepped(stand, 0, 0))
        self.assertEqual(kept, stepped(first_stand(((3, 1, 2), (4, 1, 5))), 1, 2))


if __name__ == "__main__":
    unittest.main()

import copy
import unittest

from oracle import BIG, ODD_THINGS, just_tuples, numbers_table
from cornersteps.tables import (
    beside, exchanged, is_row, is_table, led_home, led_through, plain, taken, times, turned,
)

ONE = ((1, -2, 3), (-4, 5, BIG))
TABLES = [
    ((7,),), ((0, -1, 2, 5),), ((3,), (-4,), (BIG,)), ONE, ((1, 2), (3, 4)), ((0, 0), (0, 0)),
    numbers_table(1, 5, 6, 10 ** 12 - 1), numbers_table(2, 6, 12, 9), numbers_table(3, 4, 3, 10 ** 400 - 1),
]


class KindsTest(unittest.TestCase):
    def test_tables_are_tables(self):
        for table in TABLES + [((0,),), ((-1,),), ((10 ** 399, -(10 ** 399)),)]:
            self.assertIs(True, is_table(table))

    def test_near_misses_are_no_tables(self):
        misses = [
            [(1, 2), (3, 4)], ([1, 2], (3, 4)), ((1, 2), [3, 4]), ([1, 2], [3, 4]), ((1, True), (3, 4)),
            ((1, 2), (False, 4)), ((True,),), ((1, 2), (3,)), ((1,), (2, 3)), ((1, 2), (3, 4, 5)), (), ((),),
            ((), ()), ((1,), ()), ((), (1,)), ((1, "2"),), ((1, None),), ((1, (2,)),), ((1, [2]),), ((1, {}),),
            (1, 2), ((1, 2), 3), (3, (1, 2)), ((1, 2), None), ((1, 2), "34"), ("12", "34"), "12", {0: (1,)},
            ((1, 2), {0: 3, 1: 4}), ({0: 3},), None, True, 1,
        ]
        for thing in misses + ODD_THINGS:
            self.assertIs(False, is_table(thing), thing)

    def test_rows_are_rows(self):
        for row in [(1,), (0, 0), (-1, BIG, 3), (10 ** 399,), (1, 2, 3, 4, 5, 6), (1,) * 12]:
            self.assertIs(True, is_row(len(row), row))

    def test_near_misses_are_no_rows(self):
        misses = [
            (2, (1,)), (2, (1, 2, 3)), (1, ()), (1, (True,)), (1, (False,)), (2, (1, True)), (2, (True, 1)),
            (2, [1, 2]), (2, "12"), (1, {0: 1}), (1, 1), (1, None), (1, True), (2, (1, None)), (2, (1, "2")),
            (2, (1, (2,))), (2, (1, [2])), (3, ((1,), (2,), (3,))), (1, ([],)), (1, ({},)),
        ]
        for many, thing in misses:
            self.assertIs(False, is_row(many, thing), (many, thing))
        for thing in ODD_THINGS:
            self.assertIs(False, is_row(3, thing), thing)
            self.assertIs(False, is_row(1, thing), thing)

    def test_what_is_asked_stays_and_is_told_alike_again(self):
        for thing in TABLES + ODD_THINGS:
            kept = repr(thing)
            told = [(is_table(thing), is_row(2, thing)) for _ in range(2)]
            self.assertEqual(kept, repr(thing))
            self.assertEqual(told[0], told[1])


class MadeTablesTest(unittest.TestCase):
    def test_turned(self):
        self.assertEqual(((1, -4), (-2, 5), (3, BIG)), turned(ONE))
        self.assertEqual(((1,), (2,)), turned(((1, 2),)))
        self.assertEqual(((1, 2),), turned(((1,), (2,))))
        for table in TABLES:
            told = turned(table)
            self.assertTrue(just_tuples(told))
            self.assertEqual((len(table[0]), len(table)), (len(told), len(told[0])))
            for i, row in enumerate(table):
                for j, number in enumerate(row):
                    self.assertEqual(number, told[j][i])
            self.assertEqual(table, turned(told))

    def test_plain(self):
        self.assertEqual(((1,),), plain(1))
        self.assertEqual(((1, 0), (0, 1)), plain(2))
        for many in range(1, 7):
            told = plain(many)
            self.assertTrue(just_tuples(told))
            self.assertEqual((many, {many}), (len(told), {len(row) for row in told}))
            for i in range(many):
                for j in range(many):
                    self.assertEqual(int(i == j), told[i][j])

    def test_times(self):
        self.assertEqual(((19, 22), (43, 50)), times(((1, 2), (3, 4)), ((5, 6), (7, 8))))
        self.assertEqual(((-3, 6), (-4, 8)), times(((3,), (4,)), ((-1, 2),)))
        self.assertEqual(((5,),), times(((-1, 2),), ((3,), (4,))))
        self.assertEqual(((BIG * BIG - 1,),), times(((BIG, 1),), ((BIG,), (-1,))))

    def test_times_number_by_number(self):
        shapes = [(1, 1, 1), (2, 3, 4), (5, 5, 5), (3, 1, 6), (4, 5, 1), (1, 4, 2), (5, 2, 6)]
        for seed, (rows, between, columns) in enumerate(shapes):
            for size in (9, 10 ** 12 - 1):
                one = numbers_table(seed, rows, between, size)
                other = numbers_table(seed + 50, between, columns, size)
                told = times(one, other)
                self.assertTrue(just_tuples(told))
                self.assertEqual((rows, columns), (len(told), len(told[0])))
                for i in range(rows):
                    for j in range(columns):
                        self.assertEqual(sum(one[i][k] * other[k][j] for k in range(between)), told[i][j])

    def test_times_the_plain_table(self):
        for table in TABLES:
            self.assertEqual(table, times(plain(len(table)), table))
            self.assertEqual(table, times(table, plain(len(table[0]))))

    def test_taken(self):
        table = ((1, 2, 3), (4, 5, 6), (7, -8, BIG))
        self.assertEqual(((BIG, 7), (3, 1)), taken(table, ((2, 0), (2, 0))))
        self.assertEqual(((6,),), taken(table, ((1,), (2,))))
        self.assertEqual(table, taken(table, ((0, 1, 2), (0, 1, 2))))
        self.assertEqual(((5, 6, 4), (-8, BIG, 7), (2, 3, 1)), taken(table, ((1, 2, 0), (1, 2, 0))))
        told = taken(ONE, ((1,), (0,)))
        self.assertTrue(just_tuples(told))

    def test_taken_number_by_number(self):
        table = numbers_table(4, 5, 6, 10 ** 12 - 1)
        pick = ((4, 1, 3), (5, 0, 2))
        told = taken(table, pick)
        self.assertTrue(just_tuples(told))
        self.assertEqual([[table[i][j] for j in pick[1]] for i in pick[0]], [list(row) for row in told])

    def test_beside(self):
        self.assertEqual(((1, 2, 5), (3, 4, -6)), beside(((1, 2), (3, 4)), ((5,), (-6,))))
        self.assertEqual(((5, 1, 2), (-6, 3, 4)), beside(((5,), (-6,)), ((1, 2), (3, 4))))
        for table in TABLES:
            told = beside(table, plain(len(table)))
            self.assertTrue(just_tuples(told))
            self.assertEqual(len(table), len(told))
            for i, row in enumerate(told):
                self.assertEqual(table[i], row[:len(table[0])])
                self.assertEqual(plain(len(table))[i], row[len(table[0]):])

    def test_exchanged(self):
        table = ((1, 2), (3, 4), (-5, BIG))
        self.assertEqual(((-5, BIG), (3, 4), (1, 2)), exchanged(table, 0, 2))
        self.assertEqual(((-5, BIG), (3, 4), (1, 2)), exchanged(table, 2, 0))
        self.assertEqual(((1, 2), (-5, BIG), (3, 4)), exchanged(table, 1, 2))
        for i in range(3):
            self.assertEqual(table, exchanged(table, i, i))
            for j in range(3):
                self.assertTrue(just_tuples(exchanged(table, i, j)))
                self.assertEqual(table, exchanged(exchanged(table, i, j), i, j))
        self.assertEqual(((1, 2, 3),), exchanged(((1, 2, 3),), 0, 0))

    def test_led_through(self):
        self.assertEqual((-7, 8, 3 + 2 * BIG), led_through((1, 2), ONE))
        self.assertEqual((-1, 2, -3), led_through((-1, 0), ONE))
        self.assertEqual((-6, 4), led_through((2,), ((-3, 2),)))
        self.assertEqual((26,), led_through((2, 5), ((3,), (4,))))
        for seed, table in enumerate(TABLES):
            row = numbers_table(seed, 1, len(table), 10 ** 12 - 1)[0]
            told = led_through(row, table)
            self.assertTrue(type(told) is tuple and just_tuples(told))
            told_again = [sum(row[i] * table[i][j] for i in range(len(table))) for j in range(len(table[0]))]
            self.assertEqual(told_again, list(told))

    def test_led_home(self):
        self.assertEqual((5, 1 + 2 * BIG), led_home(ONE, (1, 1, 2)))
        self.assertEqual((-1, 4), led_home(ONE, (-1, 0, 0)))
        self.assertEqual((26,), led_home(((3, 4),), (2, 5)))
        self.assertEqual((6, -4), led_home(((3,), (-2,)), (2,)))
        for seed, table in enumerate(TABLES):
            row = numbers_table(seed, 1, len(table[0]), 10 ** 12 - 1)[0]
            told = led_home(table, row)
            self.assertTrue(type(told) is tuple and just_tuples(told))
            told_again = [sum(numbers[j] * row[j] for j in range(len(row))) for numbers in table]
            self.assertEqual(told_again, list(told))

    def test_what_is_handed_in_stays_and_is_told_alike_again(self):
        pick = ((1, 0), (2, 0))
        asked = [
            (turned, (ONE,)), (plain, (4,)), (times, (ONE, turned(ONE))), (taken, (ONE, pick)),
            (beside, (ONE, ONE)), (exchanged, (ONE, 0, 1)), (led_through, ((1, 2), ONE)),
            (led_home, (ONE, (1, 2, 3))),
        ]
        for function, things in asked:
            kept = copy.deepcopy(things)
            told = function(*things)
            self.assertEqual(kept, things)
            self.assertEqual(told, function(*things))


if __name__ == "__main__":
    unittest.main()

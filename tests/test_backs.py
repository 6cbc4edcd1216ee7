import unittest

from oracle import (
    BIG, SQUARES, adjoined, determinant, just_told, numbers_table, refusal_of, summed_table, told_alike, turn,
)
from cornersteps.backchecker import lets_back
from cornersteps.backs import back
from cornersteps.tables import plain, times

MORE_SQUARES = [numbers_table(seed, many, many, size) for seed in (111, 112) for many in range(1, 6)
                for size in (1, 9, 10 ** 12 - 1)]


class BacksTest(unittest.TestCase):
    def test_by_hand(self):
        self.assertEqual(("back", ((4, -2), (-3, 1)), -2), back(((1, 2), (3, 4))))
        self.assertEqual(("back", ((0, -1), (-1, 0)), -1), back(((0, 1), (1, 0))))
        self.assertEqual(("back", ((2, 0), (0, 2)), 4), back(((2, 0), (0, 2))))
        # Row j at column i: the number below the line of likes comes of the one above it.
        self.assertEqual(("back", ((1, -5), (0, 1)), 1), back(((1, 5), (0, 1))))
        self.assertEqual(("back", ((1, -5, 0), (0, 1, 0), (0, 0, 1)), 1), back(((1, 5, 0), (0, 1, 0), (0, 0, 1))))

    def test_tables_of_one_row(self):
        self.assertEqual(("back", ((1,),), 5), back(((5,),)))
        self.assertEqual(("back", ((1,),), -BIG), back(((-BIG,),)))
        told = back(((0,),))
        self.assertEqual("none", told[0])
        self.assertIs(True, lets_back(((0,),), told))

    def test_number_by_number_against_corners(self):
        words = {"back": 0, "none": 0}
        for table in SQUARES + MORE_SQUARES:
            told = told_alike(back, table)
            self.assertTrue(just_told(told))
            corner = determinant(table)
            if corner != 0:
                self.assertEqual(("back", adjoined(table), corner), told)
            else:
                self.assertEqual(("none", 2), (told[0], len(told)))
            self.assertIs(True, told_alike(lets_back, table, told))
            words[told[0]] += 1
        self.assertTrue(words["back"] > 25 and words["none"] > 5)

    def test_factors_where_the_corner_is_0(self):
        tables = [
            ((2, 4), (1, 2)), ((0, 1), (0, 2)), ((0, 0), (1, 2)), ((1, 2), (0, 0)), ((0, 0), (0, 0)),
            ((1, 2, 3), (4, 5, 6), (7, 8, 9)), summed_table(113, 5, 5, BIG), summed_table(114, 3, 3, 9),
            turn(summed_table(115, 4, 4, 10 ** 11)), ((1, 1, 1), (1, 1, 1), (1, 1, 1)),
        ]
        for table in tables:
            told = back(table)
            self.assertEqual("none", told[0])
            self.assertIs(True, lets_back(table, told))

    def test_a_back_is_led_both_ways(self):
        for table in SQUARES + MORE_SQUARES:
            told = back(table)
            if told[0] == "back":
                many = len(table)
                led = tuple(tuple(told[2] * number for number in row) for row in plain(many))
                self.assertEqual(led, times(table, told[1]))
                self.assertEqual(led, times(told[1], table))

    def test_of_the_table_turned_it_is_turned(self):
        for table in SQUARES + MORE_SQUARES:
            told, other = back(table), back(turn(table))
            self.assertEqual(told[0], other[0])
            if told[0] == "back":
                self.assertEqual(("back", turn(told[1]), told[2]), other)

    def test_the_other_word_is_not_let_by(self):
        for table in SQUARES:
            if back(table)[0] == "back":
                for factors in plain(len(table)):
                    self.assertEqual("column", refusal_of(lets_back, table, ("none", factors))[0])
            else:
                self.assertEqual("there", refusal_of(lets_back, table, ("back", plain(len(table)), 1))[0])

    def test_six_rows_and_great_numbers(self):
        for table in (numbers_table(116, 6, 6, 99), numbers_table(117, 6, 6, 10 ** 400 - 1)):
            told = back(table)
            self.assertEqual(("back", adjoined(table), determinant(table)), told)
            self.assertIs(True, lets_back(table, told))
        table = summed_table(118, 6, 6, 10 ** 399)
        self.assertIs(True, lets_back(table, back(table)))
        self.assertEqual("none", back(table)[0])


if __name__ == "__main__":
    unittest.main()

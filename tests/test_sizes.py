import copy
import math
import unittest

from oracle import BIG, MANY_TABLES, corner_told, numbers_table, picks_of
from cornersteps.corners import corner
from cornersteps.sizes import square_bound, sum_bound

TABLE = ((1, -2, 3), (-4, 5, BIG), (0, 0, 7))


class SizesTest(unittest.TestCase):
    def test_nothing_picked(self):
        for table in MANY_TABLES:
            self.assertEqual((1, 1), (sum_bound(table, ((), ())), square_bound(table, ((), ()))))

    def test_small_picks(self):
        told = [
            (((0,), (1,)), 2, 4), (((1,), (0,)), 4, 16), (((0, 1), (0, 1)), 27, 5 * 41), (((1, 0), (1, 0)), 27, 5 * 41),
            (((0, 1), (2, 0)), 4 * (BIG + 4), 10 * (BIG * BIG + 16)), (((0, 2), (0, 1)), 0, 0),
            (((2, 1, 0), (1, 2, 0)), 7 * (BIG + 9) * 6, 49 * (BIG * BIG + 41) * 14),
        ]
        for pick, sums, squares in told:
            self.assertEqual(sums, sum_bound(TABLE, pick), pick)
            self.assertEqual(squares, square_bound(TABLE, pick), pick)

    def test_the_bounds_as_told_and_the_corner_below_them(self):
        for seed in range(3):
            for size in (2, 10 ** 12 - 1):
                table = numbers_table(seed, 5, 6, size)
                for many in range(6):
                    for rows, columns in picks_of(table, seed, many):
                        sums, squares = sum_bound(table, (rows, columns)), square_bound(table, (rows, columns))
                        self.assertIs(int, type(sums))
                        self.assertIs(int, type(squares))
                        lines = [[table[i][j] for j in columns] for i in rows]
                        self.assertEqual(math.prod(sum(map(abs, line)) for line in lines), sums)
                        self.assertEqual(math.prod(sum(n * n for n in line) for line in lines), squares)
                        told = corner(table, (rows, columns))
                        self.assertEqual(corner_told(table, rows, columns), told)
                        self.assertLessEqual(abs(told), sums)
                        self.assertLessEqual(told * told, squares)

    def test_bounds_that_are_met(self):
        self.assertEqual(12, sum_bound(((3, 0), (0, -4)), ((0, 1), (0, 1))))
        self.assertEqual(144, square_bound(((3, 0), (0, -4)), ((0, 1), (0, 1))))
        self.assertEqual(4, square_bound(((1, 1), (1, -1)), ((0, 1), (0, 1))))

    def test_what_is_handed_in_stays_and_is_told_alike_again(self):
        pick = ((2, 0), (1, 2))
        kept = copy.deepcopy((TABLE, pick))
        for function in (sum_bound, square_bound):
            self.assertEqual(function(TABLE, pick), function(TABLE, pick))
        self.assertEqual(kept, (TABLE, pick))


if __name__ == "__main__":
    unittest.main()

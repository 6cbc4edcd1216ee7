import copy
import itertools
import unittest

from oracle import BIG, ODD_THINGS, corner_told, numbers_table, picks_of, summed_table
from cornersteps.corners import corner, is_pick
from cornersteps.orders import sign_of
from cornersteps.tables import exchanged, plain, taken, times, turned

TABLE = ((1, -2, 3, 4), (5, 6, -7, 8), (9, 10, 11, BIG))


def whole_pick(table):
    return (tuple(range(len(table))), tuple(range(len(table))))


class PicksTest(unittest.TestCase):
    def test_picks_are_picks(self):
        picks = [
            ((), ()), ((0,), (0,)), ((2,), (3,)), ((0, 1), (2, 3)), ((2, 0), (3, 1)), ((1, 2, 0), (3, 0, 2)),
            ((0, 1, 2), (0, 1, 2)),
        ]
        for pick in picks:
            self.assertIs(True, is_pick(TABLE, pick), pick)
        self.assertIs(True, is_pick(((5,),), ((0,), (0,))))
        self.assertIs(True, is_pick(((5,),), ((), ())))

    def test_near_misses_are_no_picks(self):
        misses = [
            ((0,), ()), ((), (0,)), ((0, 1), (0,)), ((0,), (0, 1)), ((3,), (0,)), ((0,), (4,)), ((3,), (3,)),
            ((-1,), (0,)), ((0,), (-1,)), ((1, 1), (0, 1)), ((0, 1), (2, 2)), ((0, 1, 0), (0, 1, 2)),
            ([0], (0,)), ((0,), [0]), [(0,), (0,)], ([], []), ((), []), ([], ()), [(), ()],
            ((True,), (0,)), ((0,), (True,)), ((False,), (False,)), ((0, True), (0, 1)), (("0",), (0,)),
            ((0,), ("0",)), ("0", "0"), "00", ((None,), (0,)), (None, None), (0, 0), ((0,),), ((),),
            ((0,), (0,), (0,)), ((), (), ()), (), {0: (0,), 1: (0,)}, ((0,), {0: 0}), (((0,),), ((0,),)),
            (([0],), (0,)), ((10 ** 399,), (0,)), ((-(10 ** 399),), (0,)),
        ]
        for thing in misses + ODD_THINGS:
            self.assertIs(False, is_pick(TABLE, thing), thing)

    def test_rows_and_columns_have_their_own_bounds(self):
        self.assertIs(True, is_pick(turned(TABLE), ((3,), (2,))))
        self.assertIs(False, is_pick(turned(TABLE), ((2,), (3,))))

    def test_what_is_asked_stays_and_is_told_alike_again(self):
        for thing in ODD_THINGS + [((0, 1), [2, 3]), ((0, 1), (2, 3))]:
            kept = repr(thing)
            self.assertEqual(is_pick(TABLE, thing), is_pick(TABLE, thing))
            self.assertEqual(kept, repr(thing))


class CornersTest(unittest.TestCase):
    def test_small_corners(self):
        self.assertEqual(1, corner(TABLE, ((), ())))
        self.assertEqual(1, corner(((0,),), ((), ())))
        for i in range(3):
            for j in range(4):
                self.assertEqual(TABLE[i][j], corner(TABLE, ((i,), (j,))))
        self.assertEqual(-2, corner(((1, 2), (3, 4)), ((0, 1), (0, 1))))
        self.assertEqual(2, corner(((1, 2), (3, 4)), ((1, 0), (0, 1))))
        self.assertEqual(2, corner(((1, 2), (3, 4)), ((0, 1), (1, 0))))
        self.assertEqual(-2, corner(((1, 2), (3, 4)), ((1, 0), (1, 0))))
        self.assertEqual(BIG * BIG - 1, corner(((BIG, 1), (1, BIG)), ((0, 1), (0, 1))))
        self.assertEqual(-3, corner(((1, 2, 3), (4, 5, 6), (7, 8, 10)), ((0, 1, 2), (0, 1, 2))))

    def test_corners_as_by_striking_out(self):
        for seed in range(3):
            for size in (3, 10 ** 12 - 1):
                table = numbers_table(seed, 5, 6, size)
                for many in range(6):
                    for rows, columns in picks_of(table, seed, many):
                        told = corner(table, (rows, columns))
                        self.assertIs(int, type(told))
                        self.assertEqual(corner_told(table, rows, columns), told)
                        rising = corner(table, (tuple(sorted(rows)), tuple(sorted(columns))))
                        self.assertEqual(sign_of(rows) * sign_of(columns) * rising, told)

    def test_a_corner_of_six(self):
        table = numbers_table(8, 6, 6, 10 ** 20)
        self.assertEqual(corner_told(table, range(6), range(6)), corner(table, whole_pick(table)))

    def test_rows_that_are_sums_of_others(self):
        for many in range(3, 6):
            table = summed_table(1, many, many, 10 ** 11)
            self.assertEqual(0, corner(table, whole_pick(table)))
            self.assertNotEqual(0, corner(table, (tuple(range(many - 1)), tuple(range(many - 1)))))

    def test_plain_tables(self):
        for many in range(1, 7):
            self.assertEqual(1, corner(plain(many), whole_pick(plain(many))))

    def test_exchanged_turned_and_multiplied(self):
        for many in range(2, 6):
            table, other = numbers_table(5, many, many, 99), numbers_table(6, many, many, 99)
            told = corner(table, whole_pick(table))
            self.assertNotEqual(0, told)
            self.assertEqual(told, corner(turned(table), whole_pick(table)))
            for i, j in itertools.combinations(range(many), 2):
                self.assertEqual(-told, corner(exchanged(table, i, j), whole_pick(table)))
                columns = turned(exchanged(turned(table), i, j))
                self.assertEqual(-told, corner(columns, whole_pick(table)))
            product = times(table, other)
            self.assertEqual(told * corner(other, whole_pick(other)), corner(product, whole_pick(product)))

    def test_a_table_times_a_narrow_one(self):
        for rows, columns in [(1, 3), (2, 2), (2, 4), (3, 5), (4, 3)]:
            one, other = numbers_table(7, rows, columns, 99), numbers_table(8, columns, rows, 99)
            product = times(one, other)
            every = tuple(range(rows))
            total = 0
            for picked in itertools.combinations(range(columns), rows):
                total += corner(one, (every, picked)) * corner(other, (picked, every))
            self.assertEqual(total, corner(product, whole_pick(product)))

    def test_the_corner_of_what_is_taken(self):
        table = numbers_table(9, 5, 6, 50)
        pick = ((4, 0, 2), (1, 5, 3))
        small = taken(table, pick)
        self.assertEqual(corner(table, pick), corner(small, whole_pick(small)))

    def test_what_is_handed_in_stays_and_is_told_alike_again(self):
        table, pick = numbers_table(3, 4, 4, 20), ((2, 0, 1), (3, 1, 0))
        kept = copy.deepcopy((table, pick))
        told = corner(table, pick)
        self.assertEqual(told, corner(table, pick))
        self.assertEqual(kept, (table, pick))


if __name__ == "__main__":
    unittest.main()

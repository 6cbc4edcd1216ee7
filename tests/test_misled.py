import unittest

from oracle import BIG, MANY_TABLES, by_prime, numbers_table, rank_told, summed_table, told_alike, turn
from cornersteps.misled import misleading, rank_by
from cornersteps.ranks import rank
from cornersteps.tables import beside, times

PRIMES = (2, 3, 5, 7, 13, 101, 9973)
FORTY = (
    2, 3, 5, 7, 11, 13, 17, 19, 23, 29, 31, 37, 41, 43, 47, 53, 59, 61, 67, 71, 73, 79, 83, 89, 97, 101, 103, 107, 109,
    113, 127, 131, 137, 139, 149, 151, 157, 163, 9967, 9973,
)


class RankByTest(unittest.TestCase):
    def test_by_hand(self):
        table = ((1, 2), (3, 4))
        self.assertEqual([1, 2, 2], [rank_by(table, prime) for prime in (2, 3, 9973)])
        self.assertEqual([0, 0, 2], [rank_by(((6, 12), (-18, 30)), prime) for prime in (2, 3, 5)])
        self.assertEqual(1, rank_by(((6, 12), (-18, 30)), 11))

    def test_noughts_one_row_and_one_column(self):
        for rows, columns in [(1, 1), (1, 6), (5, 1), (5, 6)]:
            for prime in (2, 9973):
                self.assertEqual(0, rank_by(((0,) * columns,) * rows, prime))
        self.assertEqual([0, 1], [rank_by(((4, -2, 0),), prime) for prime in (2, 3)])
        self.assertEqual([0, 1], [rank_by(((9973,), (-9973,)), prime) for prime in (9973, 2)])
        self.assertEqual([1, 1], [rank_by(((0,), (BIG,), (1,)), prime) for prime in (9973, 2)])

    def test_against_all_corners_and_turned_alike(self):
        told_ranks = set()
        for table in MANY_TABLES + [summed_table(221, 5, 6, 1), ((6, 10, 15), (30, 30, 30), (0, 6, 7))]:
            for prime in PRIMES:
                told = told_alike(rank_by, table, prime)
                self.assertIs(int, type(told))
                self.assertEqual(rank_told(table, by_prime(prime)), told)
                self.assertEqual(told, rank_by(turn(table), prime))
                self.assertLessEqual(told, rank(table))
                told_ranks.add(told)
        self.assertEqual({0, 1, 2, 3, 4, 5}, told_ranks)

    def test_six_rows(self):
        for seed in range(4):
            table = turn(numbers_table(222 + seed, 5, 6, 4))
            for prime in (2, 3, 5):
                self.assertEqual(rank_told(table, by_prime(prime)), rank_by(table, prime))

    def test_twelve_columns_beside_noughts(self):
        for seed in range(4):
            table = numbers_table(231 + seed, 5, 6, 10 ** 12 - 1)
            noughts = ((0,) * 6,) * 5
            for prime in PRIMES:
                many = rank_told(table, by_prime(prime))
                self.assertEqual(many, rank_by(beside(noughts, table), prime))
                self.assertEqual(many, rank_by(beside(table, noughts), prime))
                self.assertEqual(many, rank_by(beside(table, table), prime))

    def test_great_numbers(self):
        table = numbers_table(241, 6, 12, 10 ** 400 - 1)
        small = tuple(tuple(number % 9973 for number in row) for row in table)
        self.assertEqual(rank_by(small, 9973), rank_by(table, 9973))
        divided = tuple(tuple(number * 7 for number in row) for row in numbers_table(242, 6, 12, 10 ** 398))
        self.assertEqual(0, rank_by(divided, 7))


class MisleadingTest(unittest.TestCase):
    def test_none(self):
        self.assertEqual((), misleading(((1, 2), (3, 4)), ()))
        self.assertEqual((), misleading(((1, 2), (3, 4)), (3, 5, 9973)))
        self.assertEqual((), misleading(((0, 0),), FORTY))
        self.assertEqual((), misleading(((1,),), FORTY))

    def test_one_and_several_in_their_order(self):
        table = ((1, 2), (3, 4))
        self.assertEqual((2,), misleading(table, (3, 2, 5)))
        table = ((30, 0), (0, 77))
        self.assertEqual((11, 2, 5, 3, 7), misleading(table, (11, 2, 13, 5, 3, 17, 7)))
        self.assertEqual((2, 3, 5, 7, 11), misleading(table, FORTY))
        self.assertEqual((11, 7, 5, 3, 2), misleading(table, FORTY[::-1]))

    def test_alike_ones(self):
        table = ((30, 0), (0, 77))
        self.assertEqual((2, 2, 7, 2), misleading(table, (2, 2, 13, 7, 13, 2)))
        self.assertEqual((3,) * 40, misleading(table, (3,) * 40))
        self.assertEqual((), misleading(table, (13,) * 40))

    def test_a_table_of_lower_rank_misleads_by_less(self):
        # The rank is 1, so just what divides all its numbers misleads.
        self.assertEqual((5,), misleading(((5, 10), (15, 30)), (2, 3, 5, 7)))
        self.assertEqual((2, 3), misleading(times(((6,), (12,)), ((1, 2, 3),)), (2, 3, 5)))

    def test_against_all_corners(self):
        told_primes = 0
        tables = MANY_TABLES + [numbers_table(251 + seed, 3, 3, 9) for seed in range(12)]
        for table in tables + [turn(numbers_table(252, 5, 6, 3)), beside(((0,) * 6,) * 2, numbers_table(253, 2, 6, 1))]:
            many = rank_told(table)
            told = told_alike(misleading, table, FORTY)
            self.assertIs(tuple, type(told))
            self.assertTrue(all(type(prime) is int for prime in told))
            self.assertEqual(tuple(prime for prime in FORTY if rank_told(table, by_prime(prime)) < many), told)
            told_primes += len(told)
        self.assertTrue(told_primes > 20)


if __name__ == "__main__":
    unittest.main()

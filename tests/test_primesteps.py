import unittest

from oracle import (
    BIG, MANY_TABLES, by_prime, just_tuples, numbers_table, places_left, random_paper, stand_told, steps_told,
    summed_table, told_alike,
)
from cornersteps.errors import CornerError, NoPaper, NoStep
from cornersteps.primesteps import first_by, stepped_by, steps_by

PRIMES = (2, 3, 5, 7, 11, 101, 9973)

# Numbers below 0, great ones, and rows and columns that a prime divides.
TABLES = MANY_TABLES + [
    ((-1, -2, -3), (-4, -5, -6), (-7, -8, -10)), ((3, 6, -9), (1, 2, 4), (5, 5, 5)), ((7, 1), (-14, 3), (21, 5)),
    ((9973, 1, -9973), (2, 9973 * 5, 4)), ((6, 6), (6, 6)), ((10, -15, 20), (5, 25, -35), (0, 5, 10)),
    numbers_table(201, 3, 4, 10 ** 400 - 1), summed_table(202, 5, 4, 10 ** 12 - 1),
]


class FirstByTest(unittest.TestCase):
    def test_by_hand(self):
        self.assertEqual(((), 1, ((1, 1), (0, 1))), first_by(((1, -1), (2, 3)), 2))
        self.assertEqual(((), 1, ((2, 0, 4),)), first_by(((-3, 10, 9),), 5))
        self.assertEqual(((), 1, ((0,), (9972,))), first_by(((9973,), (-1,)), 9973))

    def test_each_number_is_what_is_left(self):
        for table in TABLES:
            for prime in PRIMES:
                told = told_alike(first_by, table, prime)
                self.assertEqual(stand_told(table, (), by_prime(prime)), told)
                self.assertEqual(((), 1), told[:2])
                self.assertTrue(just_tuples(told))
                self.assertTrue(all(0 <= number < prime for row in told[2] for number in row))


class SteppedByTest(unittest.TestCase):
    def refused(self, stand, prime, row, column):
        kept = repr(stand)
        for _ in range(2):
            with self.assertRaises(NoStep) as caught:
                stepped_by(stand, prime, row, column)
            error = caught.exception
            self.assertIs(NoStep, type(error))
            self.assertIsInstance(error, CornerError)
            self.assertNotIsInstance(error, NoPaper)
            self.assertEqual((row, column), (error.row, error.column))
        self.assertEqual(kept, repr(stand))

    def test_by_hand(self):
        first = first_by(((1, 2), (3, 4)), 5)
        second = stepped_by(first, 5, 0, 0)
        self.assertEqual((((0, 0),), 1, ((1, 2), (0, 3))), second)
        self.assertEqual((((0, 0), (1, 1)), 3, ((3, 0), (0, 3))), stepped_by(second, 5, 1, 1))
        # By 2 the same table has a nought where 5 leaves 4.
        self.assertEqual((((1, 0),), 1, ((0, 0), (1, 0))), stepped_by(first_by(((1, 2), (3, 4)), 2), 2, 1, 0))

    def test_at_any_pairs_each_under_and_number_is_its_corner_by_the_prime(self):
        for seed, table in enumerate(TABLES):
            for prime in PRIMES:
                paper = random_paper(table, seed * 10 + prime, 5, by_prime(prime))
                stand = first_by(table, prime)
                for told in paper[1:]:
                    row, column = told[0][-1]
                    stand = told_alike(stepped_by, stand, prime, row, column)
                    self.assertEqual(told, stand)
                    self.assertNotEqual(0, stand[1])
                    self.assertTrue(just_tuples(stand))

    def test_at_all_pairs_one_behind_the_other(self):
        for table in [((2, -3, 5), (7, 0, -1), (4, 6, 8)), ((0, 1, 2, -3), (4, -5, 0, 6))]:
            for prime in (2, 3, 7, 9973):
                stands = [first_by(table, prime)]
                while stands:
                    stand = stands.pop()
                    self.assertEqual(stand_told(table, stand[0], by_prime(prime)), stand)
                    stands += [stepped_by(stand, prime, row, column) for row, column in places_left(stand)]

    def test_no_step_at_any_other_place(self):
        for seed, table in enumerate(TABLES[:20]):
            for prime in (2, 5, 9973):
                for stand in random_paper(table, seed, 3, by_prime(prime)):
                    for row in range(len(table)):
                        for column in range(len(table[0])):
                            if (row, column) not in places_left(stand):
                                self.refused(stand, prime, row, column)

    def test_no_step_each_cause(self):
        first = first_by(((1, 2, 5), (10, 4, 3), (2, 4, 6)), 5)
        behind = stepped_by(first, 5, 0, 0)
        self.refused(first, 5, 0, 2)
        self.refused(first, 5, 1, 0)
        self.refused(behind, 5, 0, 1)
        self.refused(behind, 5, 0, 0)
        self.refused(behind, 5, 2, 0)
        self.refused(behind, 5, 2, 1)
        # A stand has noughts in a picked column, so only a number that is no corner tells the two causes apart.
        self.refused((((0, 0),), 1, ((1, 2), (3, 4))), 5, 1, 0)


class StepsByTest(unittest.TestCase):
    def test_the_first_so_many_columns_none_to_all(self):
        for table in TABLES:
            for prime in PRIMES:
                for wide in range(len(table[0]) + 1):
                    told = told_alike(steps_by, table, prime, wide)
                    self.assertEqual(steps_told(table, "first", wide, by_prime(prime)), told)
                    self.assertTrue(just_tuples(told))

    def test_none_of_the_columns(self):
        self.assertEqual((((), 1, ((1, 2),)),), steps_by(((1, 2),), 3, 0))

    def test_columns_that_the_prime_divides_are_passed_over(self):
        table = ((6, 1), (9, 2))
        self.assertEqual(((0, 1),), steps_by(table, 3, 2)[-1][0])
        self.assertEqual((), steps_by(table, 3, 1)[-1][0])
        self.assertEqual(((1, 0), (0, 1)), steps_by(table, 2, 2)[-1][0])
        self.assertEqual(((0, 0), (1, 1)), steps_by(table, 9973, 2)[-1][0])

    def test_tables_told_here(self):
        table = numbers_table(203, 6, 12, 10 ** 400 - 1)
        for prime in (2, 7, 9973):
            told = steps_by(table, prime, 12)
            picked, under, numbers = told[-1]
            wanted = stand_told(tuple(row[:6] for row in table), [pair for pair in picked if pair[1] < 6], by_prime(prime))
            if len(wanted[0]) == len(picked):
                self.assertEqual(wanted[1], under)
            for row, column in picked:
                self.assertEqual([under if i == row else 0 for i in range(6)], [line[column] for line in numbers])

    def test_what_was_asked_ahead_does_not_matter(self):
        told = steps_by(((2, BIG), (4, -3)), 7, 2)
        steps_by(((2, BIG), (4, -3)), 3, 2)
        steps_by(((1, 1), (4, -3)), 7, 1)
        self.assertEqual(told, steps_by(((2, BIG), (4, -3)), 7, 2))


if __name__ == "__main__":
    unittest.main()

import unittest

from oracle import (
    MANY_TABLES, ODD_THINGS, by_prime, numbers_table, papers_amiss, papers_amiss_twice, put, put_deep, random_paper,
    rank_told, refusal_of, stand_told, steps_told, told_alike,
)
from cornersteps.primechecker import lets_rank_by, lets_steps_by
from cornersteps.primesteps import steps_by
from cornersteps.rules import steps

PRIMES = (2, 3, 7, 9973)
TABLE = ((1, 2, 3), (4, 5, 6), (7, 8, 10))
PAIRS = ((1, 2), (0, 0), (2, 1))


def paper_told(table, pairs, prime):
    return tuple(stand_told(table, pairs[:many], by_prime(prime)) for many in range(len(pairs) + 1))


PAPER = paper_told(TABLE, PAIRS, 7)
SPOILED = [
    (PAPER, TABLE, 7), (paper_told(((1, 1), (1, 0)), ((0, 1), (1, 0)), 2), ((1, 1), (1, 0)), 2),
    (steps_told(((9973, 0, 5), (-2, 3, 10 ** 11)), "first", 3, by_prime(9973)), ((9973, 0, 5), (-2, 3, 10 ** 11)), 9973),
    (steps_told(((2, 4), (1, 2), (3, 3)), "first", 2, by_prime(3)), ((2, 4), (1, 2), (3, 3)), 3),
]


def others_by(prime):
    """Other numbers from 0 below the prime."""
    return lambda number: sorted({(number + 1) % prime, (number - 1) % prime, 0, 1} - {number})


def no_numbers_by(prime):
    return [prime, prime + 1, -1, -prime, 1 - prime, 10 ** 399, -(10 ** 399), True, False, None, "1", (1,), [1], {}]


class StepsByCheckerTest(unittest.TestCase):
    def test_papers_by_the_prime_are_let_by(self):
        for table in MANY_TABLES:
            for prime in PRIMES:
                for wide in range(len(table[0]) + 1):
                    paper = steps_by(table, prime, wide)
                    for many in range(1, len(paper) + 1):
                        self.assertIs(True, told_alike(lets_steps_by, table, prime, paper[:many]))

    def test_papers_at_any_pairs_are_let_by(self):
        for seed, table in enumerate(MANY_TABLES):
            for prime in PRIMES:
                for turn in range(3):
                    paper = random_paper(table, seed * 10 + turn, 5, by_prime(prime))
                    self.assertIs(True, told_alike(lets_steps_by, table, prime, paper))

    def test_tables_told_here(self):
        table = numbers_table(211, 6, 12, 10 ** 400 - 1)
        for prime in PRIMES:
            paper = steps_by(table, prime, 12)
            self.assertIs(True, lets_steps_by(table, prime, paper))
            other = others_by(prime)(paper[-1][2][0][0])[0]
            amiss = put_deep(paper, (len(paper) - 1, 2, 0, 0), other)
            self.assertEqual(("numbers", len(paper) - 1), refusal_of(lets_steps_by, table, prime, amiss))

    def test_each_word_at_each_place(self):
        seen = set()
        for paper, table, prime in SPOILED:
            self.assertIs(True, lets_steps_by(table, prime, paper))
            for thing, refusal in papers_amiss(paper, others_by(prime), no_numbers_by(prime)):
                self.assertEqual(refusal, refusal_of(lets_steps_by, table, prime, thing), thing)
                seen.add(refusal)
        for place in range(4):
            self.assertLessEqual({(word, place) for word in ("shape", "pick", "under", "numbers")}, seen)

    def test_the_word_and_place_due_first(self):
        for paper, table, prime in SPOILED:
            for thing, refusal in papers_amiss_twice(paper, others_by(prime)):
                self.assertEqual(refusal, refusal_of(lets_steps_by, table, prime, thing), thing)

    def test_numbers_that_leave_the_same_but_are_not_below_the_prime(self):
        for place, (_, under, numbers) in enumerate(PAPER):
            for more in (7, -7, 70, 7 * 10 ** 390):
                amiss = put_deep(PAPER, (place, 1), under + more)
                self.assertEqual(("shape", place), refusal_of(lets_steps_by, TABLE, 7, amiss))
                for i in range(3):
                    for j in range(3):
                        amiss = put_deep(PAPER, (place, 2, i, j), numbers[i][j] + more)
                        self.assertEqual(("shape", place), refusal_of(lets_steps_by, TABLE, 7, amiss))

    def test_the_first_stand_has_what_is_left(self):
        # The table itself is no first stand where the prime is not above all its numbers.
        self.assertEqual(("shape", 0), refusal_of(lets_steps_by, TABLE, 7, (((), 1, TABLE),)))
        self.assertIs(True, lets_steps_by(TABLE, 11, (((), 1, TABLE),)))
        self.assertEqual(("numbers", 0), refusal_of(lets_steps_by, ((8, 2),), 7, (((), 1, ((2, 2),)),)))
        self.assertIs(True, lets_steps_by(((8, 2),), 7, (((), 1, ((1, 2),)),)))
        self.assertIs(True, lets_steps_by(((-6, 7),), 7, (((), 1, ((1, 0),)),)))

    def test_a_pair_at_a_number_that_the_prime_divides(self):
        table = ((7, 1), (2, 3))
        first = ((), 1, ((0, 1), (2, 3)))
        for under in (0, 1):
            stand = (((0, 0),), under, ((0, 1), (0, 0)))
            self.assertEqual(("pick", 1), refusal_of(lets_steps_by, table, 7, (first, stand)))
        self.assertEqual(("shape", 0), refusal_of(lets_steps_by, table, 7, steps(table, "first", 2)))

    def test_a_paper_by_another_prime(self):
        for prime, other in [(7, 11), (7, 5), (9973, 9967), (2, 3), (3, 2)]:
            paper = steps_by(TABLE, prime, 3)
            word, place = refusal_of(lets_steps_by, TABLE, other, paper)
            self.assertIn((word, place), [("numbers", 0), ("shape", 0), ("shape", 1), ("numbers", 1), ("numbers", 2)])
        self.assertEqual(("numbers", 0), refusal_of(lets_steps_by, TABLE, 11, steps_by(TABLE, 7, 3)))
        self.assertEqual(("shape", 0), refusal_of(lets_steps_by, TABLE, 7, steps_by(TABLE, 11, 3)))
        # Here both leave the same at first; the step tells the primes apart.
        table = ((1, 2), (3, 1))
        self.assertEqual(("numbers", 1), refusal_of(lets_steps_by, table, 11, steps_by(table, 7, 2)))
        self.assertEqual(("shape", 1), refusal_of(lets_steps_by, ((1, 1), (3, 1)), 5, steps_by(((1, 1), (3, 1)), 11, 2)))

    def test_a_paper_of_whole_numbers(self):
        self.assertEqual(("shape", 0), refusal_of(lets_steps_by, TABLE, 7, steps(TABLE, "first", 3)))
        self.assertEqual(("shape", 1), refusal_of(lets_steps_by, TABLE, 11, steps(TABLE, "first", 3)))
        # All numbers of these steps are below the prime, so they are what is left by it, too.
        table = ((1, 2), (0, 3))
        self.assertIs(True, lets_steps_by(table, 7, steps(table, "first", 2)))

    def test_just_one_table_of_numbers_is_let_by(self):
        table = ((2, 1), (4, 4))
        first = ((), 1, ((2, 1), (1, 1)))
        let_by = []
        for under in range(3):
            for a, b, c, d in [(a, b, c, d) for a in range(3) for b in range(3) for c in range(3) for d in range(3)]:
                stand = (((0, 0),), under, ((a, b), (c, d)))
                try:
                    lets_steps_by(table, 3, (first, stand))
                    let_by.append(stand)
                except ValueError:
                    pass
        self.assertEqual([stand_told(table, ((0, 0),), by_prime(3))], let_by)


class RankByCheckerTest(unittest.TestCase):
    def test_papers_by_the_prime_and_at_any_pairs(self):
        for seed, table in enumerate(MANY_TABLES):
            for prime in PRIMES:
                many = rank_told(table, by_prime(prime))
                papers = [steps_by(table, prime, len(table[0]))]
                papers += [random_paper(table, seed * 10 + turn, 6, by_prime(prime)) for turn in range(2)]
                for paper in papers:
                    self.assertIs(True, told_alike(lets_rank_by, table, prime, many, paper))
                    for other in (many + 1, many - 1, -many - 1, many + prime, many + 10 ** 399):
                        self.assertEqual(("many", -1), refusal_of(lets_rank_by, table, prime, other, paper))

    def test_papers_that_are_cut_too_early(self):
        cuts = 0
        for table in MANY_TABLES:
            for prime in PRIMES:
                paper = steps_by(table, prime, len(table[0]))
                for cut in range(1, len(paper)):
                    for many in (cut - 1, cut, len(paper) - 1, 99):
                        self.assertEqual(("end", -1), refusal_of(lets_rank_by, table, prime, many, paper[:cut]))
                    cuts += 1
        self.assertTrue(cuts > 100)

    def test_steps_of_fewer_columns(self):
        table = ((1, 2, 3), (2, 4, 7))
        self.assertEqual(("end", -1), refusal_of(lets_rank_by, table, 5, 1, steps_by(table, 5, 2)))
        self.assertIs(True, lets_rank_by(table, 5, 2, steps_by(table, 5, 3)))
        self.assertIs(True, lets_rank_by(table, 2, 2, steps_by(table, 2, 3)))

    def test_tables_that_the_prime_divides(self):
        for table, prime in [(((2, 4), (6, 8)), 2), (((-9973,),), 9973), (((0, 0),), 3), (((5,), (10,)), 5)]:
            paper = (((), 1, tuple((0,) * len(row) for row in table)),)
            self.assertIs(True, lets_rank_by(table, prime, 0, paper))
            self.assertEqual(("many", -1), refusal_of(lets_rank_by, table, prime, 1, paper))
            self.assertEqual(("many", -1), refusal_of(lets_rank_by, table, prime, -1, paper))

    def test_the_rank_by_another_prime(self):
        table = ((1, 2), (3, 4))
        self.assertIs(True, lets_rank_by(table, 2, 1, steps_by(table, 2, 2)))
        self.assertEqual(("many", -1), refusal_of(lets_rank_by, table, 2, 2, steps_by(table, 2, 2)))
        self.assertIs(True, lets_rank_by(table, 3, 2, steps_by(table, 3, 2)))
        self.assertEqual(("many", -1), refusal_of(lets_rank_by, table, 3, 1, steps_by(table, 3, 2)))

    def test_what_is_no_paper_goes_first(self):
        for many in (3, 2, 99):
            for thing, refusal in papers_amiss(PAPER, others_by(7), no_numbers_by(7)):
                self.assertEqual(refusal, refusal_of(lets_rank_by, TABLE, 7, many, thing))
            for thing in ODD_THINGS:
                self.assertEqual(("shape", 1), refusal_of(lets_rank_by, TABLE, 7, many, put(PAPER[:2], 1, thing)))

    def test_the_end_goes_ahead_of_the_number(self):
        for cut in range(1, 4):
            self.assertEqual(("end", -1), refusal_of(lets_rank_by, TABLE, 7, 99, PAPER[:cut]))
        self.assertEqual(("many", -1), refusal_of(lets_rank_by, TABLE, 7, 99, PAPER))
        self.assertIs(True, lets_rank_by(TABLE, 7, 3, PAPER))


if __name__ == "__main__":
    unittest.main()

import unittest

from oracle import (
    ODD_THINGS, POLY_TABLES, X, papers_amiss, papers_amiss_twice, poly_corner_told, poly_product, poly_sum, poly_table,
    put_deep, random_paper, refusal_of, stand_told, told_alike,
)
from cornersteps.polychecker import lets_poly_steps
from cornersteps.polysteps import poly_steps
from cornersteps.rules import steps

TABLE = ((X, (1,), (2,)), ((1,), X, (0, 0, 1)), ((3, 1), (-1,), (5,)))
PAIRS = ((1, 2), (0, 0), (2, 1))
PAPER = tuple(stand_told(TABLE, PAIRS[:many], poly_corner_told, ()) for many in range(4))
SPOILED = [
    (PAPER, TABLE), (poly_steps(((X, (0, 2)), ((3,), (6,))), 2), ((X, (0, 2)), ((3,), (6,)))),
    (poly_steps((((), X), (X, ())), 2), (((), X), (X, ()))), (poly_steps((((),),), 1), (((),),)),
    (random_paper(((X, (1,)), ((1,), X), ((), (4, 4))), 5, 2, poly_corner_told, ()), ((X, (1,)), ((1,), X), ((), (4, 4)))),
]

# What is no poly, and so can't stand where one does.
NO_POLYS = [0, 1, -1, 10 ** 399, True, False, None, "", "1", [], [1], {}, (0,), (1, 0), (True,), (1, True), (False, 1),
            ((1,),), ("1",), (None, 1), ([1],)]


def others_of(poly):
    """Other polys."""
    others = [poly_sum(poly, (1,)), poly_sum(poly, (-1,)), poly_sum(poly, (0, 0, 1)), poly + (10 ** 399,), (),
              tuple(-number for number in poly), poly_product(poly, X)]
    return [other for other in others if other != poly]


class PolyCheckerTest(unittest.TestCase):
    def test_papers_by_first_are_let_by(self):
        for table in POLY_TABLES:
            for wide in range(len(table[0]) + 1):
                paper = poly_steps(table, wide)
                for many in range(1, len(paper) + 1):
                    self.assertIs(True, told_alike(lets_poly_steps, table, paper[:many]))

    def test_papers_at_any_pairs_are_let_by(self):
        for seed, table in enumerate(POLY_TABLES):
            for turn in range(4):
                paper = random_paper(table, seed * 10 + turn, 4, poly_corner_told, ())
                self.assertIs(True, told_alike(lets_poly_steps, table, paper))

    def test_each_word_at_each_place(self):
        seen = set()
        for paper, table in SPOILED:
            self.assertIs(True, lets_poly_steps(table, paper))
            for thing, refusal in papers_amiss(paper, others_of, NO_POLYS):
                self.assertEqual(refusal, refusal_of(lets_poly_steps, table, thing), thing)
                seen.add(refusal)
        for place in range(4):
            self.assertLessEqual({(word, place) for word in ("shape", "pick", "under", "numbers")}, seen)

    def test_the_word_and_place_due_first(self):
        for paper, table in SPOILED:
            for thing, refusal in papers_amiss_twice(paper, others_of):
                self.assertEqual(refusal, refusal_of(lets_poly_steps, table, thing), thing)

    def test_any_things(self):
        for thing in ODD_THINGS:
            place = 0 if isinstance(thing, tuple) and thing != () else -1
            self.assertEqual(("shape", place), refusal_of(lets_poly_steps, TABLE, thing))
            self.assertEqual(("shape", 4), refusal_of(lets_poly_steps, TABLE, PAPER + (thing,)))

    def test_a_paper_of_a_table_of_numbers(self):
        table = (((1,), (2,)), ((3,), (4,)))
        paper = poly_steps(table, 2)
        self.assertIs(True, lets_poly_steps(table, paper))
        numbers = steps(((1, 2), (3, 4)), "first", 2)
        self.assertEqual(("shape", 0), refusal_of(lets_poly_steps, table, numbers))
        self.assertEqual(("shape", 1), refusal_of(lets_poly_steps, table, paper[:1] + numbers[1:]))
        self.assertEqual(("shape", 0), refusal_of(lets_poly_steps, table, put_deep(paper, (0, 1), 1)))

    def test_numbers_that_are_not_divided(self):
        under, row = PAPER[1][1], PAIRS[1][0]
        undivided = tuple(line if i == row else tuple(poly_product(under, poly) for poly in line)
                          for i, line in enumerate(PAPER[2][2]))
        self.assertEqual(("numbers", 2), refusal_of(lets_poly_steps, TABLE, put_deep(PAPER, (2, 2), undivided)))
        picked = tuple(poly_product(under, poly) for poly in PAPER[2][2][row])
        self.assertEqual(("numbers", 2), refusal_of(lets_poly_steps, TABLE, put_deep(PAPER, (2, 2, row), picked)))

    def test_polys_that_agree_at_some_numbers_alone(self):
        # x and x times x agree at 0 and at 1.
        table = ((X, (1,)), ((1,), X))
        paper = poly_steps(table, 2)
        self.assertEqual(("under", 1), refusal_of(lets_poly_steps, table, put_deep(paper, (1, 1), (0, 0, 1))))
        amiss = put_deep(paper, (1, 2, 0, 0), (0, 0, 1))
        self.assertEqual(("numbers", 1), refusal_of(lets_poly_steps, table, amiss))

    def test_another_table(self):
        for one, other in [(poly_table(90, 3, 3, 5), poly_table(91, 3, 3, 5)), (TABLE, tuple(zip(*TABLE)))]:
            self.assertEqual(("numbers", 0), refusal_of(lets_poly_steps, one, poly_steps(other, 3)))
        self.assertEqual(("shape", 0), refusal_of(lets_poly_steps, TABLE, poly_steps(TABLE[:2], 3)))


if __name__ == "__main__":
    unittest.main()

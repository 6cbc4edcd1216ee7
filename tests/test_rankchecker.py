import unittest

from oracle import (
    BIG, MANY_TABLES, ODD_THINGS, RULES, numbers_table, put, put_deep, random_paper, rank_told, refusal_of,
    stand_told, told_alike,
)
from cornersteps.rankchecker import lets_rank
from cornersteps.rules import steps

TABLE = ((1, 2, 3), (4, 5, 6), (7, 8, 9))
PAPER = steps(TABLE, "first", 3)


def shows_end(stand):
    """Whether all rows in no pair have noughts alone."""
    picked_rows = [row for row, _ in stand[0]]
    return not any(any(row) for i, row in enumerate(stand[2]) if i not in picked_rows)


class RankCheckerTest(unittest.TestCase):
    def test_papers_by_each_rule_and_at_any_pairs(self):
        for seed, table in enumerate(MANY_TABLES):
            many = rank_told(table)
            papers = [steps(table, rule, len(table[0])) for rule in RULES]
            papers += [random_paper(table, seed * 10 + turn, 6) for turn in range(4)]
            for paper in papers:
                self.assertIs(True, told_alike(lets_rank, table, many, paper))
                for other in (many + 1, many - 1, -many - 1, many + 10 ** 399, many + 100):
                    self.assertEqual(("many", -1), refusal_of(lets_rank, table, other, paper))

    def test_what_is_let_by_is_the_rank_whoever_wrote_it(self):
        for seed, table in enumerate(MANY_TABLES):
            for turn in range(3):
                paper = random_paper(table, seed * 10 + turn, 6)
                for cut in range(1, len(paper) + 1):
                    let_by = []
                    for many in range(-1, 7):
                        try:
                            self.assertIs(True, lets_rank(table, many, paper[:cut]))
                            let_by.append(many)
                        except ValueError:
                            pass
                    self.assertEqual([rank_told(table)] if cut == len(paper) else [], let_by)

    def test_papers_that_are_cut_too_early(self):
        cuts = 0
        for table in MANY_TABLES:
            for rule in RULES:
                paper = steps(table, rule, len(table[0]))
                for cut in range(1, len(paper)):
                    self.assertFalse(shows_end(paper[cut - 1]))
                    for many in (cut - 1, cut, rank_told(table), 0, 99):
                        self.assertEqual(("end", -1), refusal_of(lets_rank, table, many, paper[:cut]))
                    cuts += 1
        self.assertTrue(cuts > 100)

    def test_one_row_that_is_left_is_enough(self):
        # One row in no pair has noughts, another one has not.
        table = ((0, 0), (0, 0), (0, 3))
        first = ((), 1, table)
        self.assertEqual(("end", -1), refusal_of(lets_rank, table, 0, (first,)))
        self.assertEqual(("end", -1), refusal_of(lets_rank, table, 1, (first,)))
        self.assertIs(True, lets_rank(table, 1, (first, stand_told(table, ((2, 1),)))))

    def test_steps_of_fewer_columns(self):
        table = ((1, 2, 3), (2, 4, 7))
        paper = steps(table, "first", 2)
        self.assertEqual(2, len(paper))
        self.assertEqual(("end", -1), refusal_of(lets_rank, table, 1, paper))
        self.assertIs(True, lets_rank(table, 2, steps(table, "first", 3)))

    def test_tables_of_noughts(self):
        for table in [((0,),), ((0, 0, 0),), ((0,), (0,)), ((0, 0), (0, 0))]:
            paper = (((), 1, table),)
            self.assertIs(True, lets_rank(table, 0, paper))
            self.assertEqual(("many", -1), refusal_of(lets_rank, table, 1, paper))
            self.assertEqual(("many", -1), refusal_of(lets_rank, table, -1, paper))

    def test_no_row_left(self):
        for table in [((0, 5),), ((1, 2, 3), (4, 5, 6)), numbers_table(151, 3, 6, BIG)]:
            for rule in RULES:
                paper = steps(table, rule, len(table[0]))
                self.assertIs(True, lets_rank(table, len(table), paper))
                self.assertEqual(("many", -1), refusal_of(lets_rank, table, len(table[0]), paper))

    def test_any_things(self):
        for many in (2, 0, 99):
            for thing in ODD_THINGS:
                place = 0 if isinstance(thing, tuple) and thing != () else -1
                self.assertEqual(("shape", place), refusal_of(lets_rank, TABLE, many, thing))
                self.assertEqual(("shape", 3), refusal_of(lets_rank, TABLE, many, PAPER + (thing,)))
                self.assertEqual(("shape", 1), refusal_of(lets_rank, TABLE, many, put(PAPER, 1, thing)))

    def test_what_is_no_paper_of_steps_goes_first(self):
        self.assertEqual(3, len(PAPER))
        for many in (2, 99):
            told = [
                (list(PAPER), ("shape", -1)), (PAPER[0], ("shape", 0)), (PAPER[1:], ("pick", 0)),
                (PAPER[:1] + PAPER[2:], ("pick", 1)), (PAPER + PAPER[-1:], ("pick", 3)),
                (put_deep(PAPER, (2, 1), 99), ("under", 2)), (put_deep(PAPER, (0, 1), -1), ("under", 0)),
                (put_deep(PAPER, (1, 2, 2, 2), 5), ("numbers", 1)), (put_deep(PAPER, (2, 2, 2, 2), 1), ("numbers", 2)),
                (put_deep(PAPER[:2], (1, 1), True), ("shape", 1)),
            ]
            for thing, refusal in told:
                self.assertEqual(refusal, refusal_of(lets_rank, TABLE, many, thing))
            self.assertEqual(("end", -1), refusal_of(lets_rank, TABLE, many, PAPER[:2]))
        self.assertEqual(("many", -1), refusal_of(lets_rank, TABLE, 3, PAPER))
        self.assertIs(True, lets_rank(TABLE, 2, PAPER))

    def test_another_kind_of_steps(self):
        # Steps that divide by nothing, steps of another table, and of the table turned.
        undivided = put_deep(PAPER, (2, 2, 0), tuple(PAPER[1][1] * 2 * number for number in PAPER[2][2][0]))
        self.assertEqual(("numbers", 2), refusal_of(lets_rank, TABLE, 2, undivided))
        self.assertEqual(("numbers", 0), refusal_of(lets_rank, TABLE, 2, steps(TABLE[::-1], "first", 3)))
        self.assertEqual(("numbers", 0), refusal_of(lets_rank, TABLE, 2, steps(tuple(zip(*TABLE)), "first", 3)))
        self.assertEqual(("shape", 0), refusal_of(lets_rank, TABLE, 2, steps(TABLE[:2], "first", 3)))

    def test_true_is_no_1(self):
        table = ((1, 2),)
        paper = steps(table, "first", 2)
        self.assertIs(True, lets_rank(table, 1, paper))
        self.assertEqual(("many", -1), refusal_of(lets_rank, table, True, paper))
        self.assertEqual(("many", -1), refusal_of(lets_rank, ((0,),), False, (((), 1, ((0,),)),)))

    def test_six_rows_and_twelve_columns(self):
        table = numbers_table(152, 6, 12, 10 ** 400 - 1)
        for rule in RULES:
            paper = steps(table, rule, 12)
            self.assertIs(True, lets_rank(table, 6, paper))
            self.assertEqual(("many", -1), refusal_of(lets_rank, table, 5, paper))


if __name__ == "__main__":
    unittest.main()

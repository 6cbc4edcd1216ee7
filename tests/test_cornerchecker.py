import copy
import itertools
import unittest

from oracle import (
    BIG, ODD_THINGS, RULES, SQUARES, corner_told, numbers_table, random_paper, stand_told, summed_table, whole_corner,
)
from cornersteps.cornerchecker import lets_corner
from cornersteps.errors import CornerError, NoPaper, NoStep
from cornersteps.rules import steps
from cornersteps.tables import exchanged, times, turned

TABLE = ((1, 2, 3), (4, 5, 6), (7, 8, 10))


class CornerCheckerTest(unittest.TestCase):
    def refused(self, table, number, thing, word, place):
        kept = repr(thing)
        for _ in range(2):
            with self.assertRaises(NoPaper) as caught:
                lets_corner(table, number, thing)
            error = caught.exception
            self.assertIs(NoPaper, type(error))
            self.assertIsInstance(error, CornerError)
            self.assertNotIsInstance(error, NoStep)
            self.assertEqual((word, place), (error.word, error.place), thing)
        self.assertEqual(kept, repr(thing))

    def test_papers_by_each_rule_are_let_by_with_the_corner_alone(self):
        for table in SQUARES + [((1, 0), (0, 1)), ((0, 1, 0), (0, 0, 1), (1, 0, 0))]:
            number = whole_corner(table)
            for rule in RULES:
                paper = steps(table, rule, len(table))
                kept = copy.deepcopy((table, paper))
                self.assertIs(True, lets_corner(table, number, paper))
                self.assertIs(True, lets_corner(table, number, paper))
                self.assertEqual(kept, (table, paper))
                for other in (number + 1, number - 1, number + 10 ** 399, -number - 1):
                    self.refused(table, other, paper, "number", -1)
                if number != 0:
                    self.refused(table, -number, paper, "number", -1)
                    self.refused(table, 0, paper, "number", -1)

    def test_papers_at_any_pairs(self):
        for seed, table in enumerate(SQUARES):
            number = whole_corner(table)
            for turn in range(4):
                paper = random_paper(table, seed * 10 + turn, 5)
                self.assertIs(True, lets_corner(table, number, paper))
                self.refused(table, number + 1, paper, "number", -1)

    def test_the_last_under_where_the_signs_multiplied_are_minus_1(self):
        signs = {1: 0, -1: 0}
        for rows in itertools.permutations(range(3)):
            for columns in itertools.permutations(range(3)):
                pairs = tuple(zip(rows, columns))
                paper = tuple(stand_told(TABLE, pairs[:many]) for many in range(4))
                if any(stand[1] == 0 for stand in paper):
                    continue
                self.assertIs(True, lets_corner(TABLE, -3, paper))
                self.refused(TABLE, 3, paper, "number", -1)
                if paper[-1][1] == 3:
                    signs[-1] += 1
                    self.refused(TABLE, paper[-1][1], paper, "number", -1)
                else:
                    signs[1] += 1
        self.assertTrue(signs[1] > 0 and signs[-1] > 0)

    def test_signs_of_rows_alone_and_of_columns_alone(self):
        table = ((0, 5), (7, 0))
        by_rows = tuple(stand_told(table, ((1, 0), (0, 1))[:many]) for many in range(3))
        by_columns = tuple(stand_told(table, ((0, 1), (1, 0))[:many]) for many in range(3))
        for paper in (by_rows, by_columns):
            self.assertEqual(35, paper[-1][1])
            self.assertIs(True, lets_corner(table, -35, paper))
            self.refused(table, 35, paper, "number", -1)

    def test_rows_of_noughts(self):
        for table in [summed_table(3, 4, 4, 9), ((2, 4), (1, 2)), ((1, 2, 3), (4, 5, 6), (7, 8, 9))]:
            for rule in RULES:
                paper = steps(table, rule, len(table))
                self.assertLess(len(paper), len(table) + 1)
                self.assertIs(True, lets_corner(table, 0, paper))
                self.refused(table, paper[-1][1], paper, "number", -1)
                self.refused(table, -1, paper, "number", -1)

    def test_one_row_of_noughts_is_enough_at_once(self):
        table = ((1, 2, 3), (0, 0, 0), (4, 5, 6))
        for many in range(3):
            paper = random_paper(table, 5, many)
            self.assertIs(True, lets_corner(table, 0, paper))
            self.refused(table, 1, paper, "number", -1)
            self.refused(table, paper[-1][1], paper, "number", -1)
        self.assertIs(True, lets_corner(((0,),), 0, (((), 1, ((0,),)),)))

    def test_a_column_of_noughts_is_no_row_of_them(self):
        table = ((0, 1), (0, 2))
        first = ((), 1, table)
        self.refused(table, 0, (first,), "end", -1)
        self.assertIs(True, lets_corner(table, 0, (first, stand_told(table, ((0, 1),)))))

    def test_a_row_in_a_pair_is_no_row_of_noughts(self):
        # The row in a pair has its under at least, so a paper that is cut there has no row of noughts.
        table = ((1, 0, 0), (0, 1, 0), (0, 0, 1))
        for many in range(1, 3):
            self.refused(table, 0, steps(table, "first", 3)[:many], "end", -1)

    def test_papers_that_are_cut_too_early(self):
        for table in SQUARES:
            for rule in RULES:
                paper = steps(table, rule, len(table))
                for many in range(1, len(paper)):
                    last = paper[many - 1]
                    picked_rows = [row for row, _ in last[0]]
                    if not any(i not in picked_rows and not any(row) for i, row in enumerate(last[2])):
                        for number in (whole_corner(table), 0, last[1], 1):
                            self.refused(table, number, paper[:many], "end", -1)
        self.refused(((5,),), 5, (((), 1, ((5,),)),), "end", -1)

    def test_what_is_no_paper_of_steps_goes_first(self):
        paper = steps(TABLE, "first", 3)
        for thing in ODD_THINGS:
            place = 0 if isinstance(thing, tuple) and thing != () else -1
            self.refused(TABLE, 99, thing, "shape", place)
            self.refused(TABLE, -3, paper[:2] + (thing,), "shape", 2)
        self.refused(TABLE, 99, list(paper), "shape", -1)
        self.refused(TABLE, 99, paper[1:], "pick", 0)
        self.refused(TABLE, 99, paper[:1] + paper[2:], "pick", 1)
        picked, under, numbers = paper[2]
        self.refused(TABLE, 99, paper[:2] + ((picked, under + 1, numbers),), "under", 2)
        self.refused(TABLE, 99, paper[:2] + ((picked, under, TABLE),), "numbers", 2)
        self.refused(TABLE, 99, paper[:2], "end", -1)
        self.refused(TABLE, 99, paper, "number", -1)

    def test_true_is_no_1(self):
        table = ((1,),)
        paper = steps(table, "first", 1)
        self.assertIs(True, lets_corner(table, 1, paper))
        self.refused(table, True, paper, "number", -1)
        self.refused(((0,),), False, steps(((0,),), "first", 1), "number", -1)
        self.refused(table, 1, (((), True, table),) + paper[1:], "shape", 0)
        self.refused(table, 1, paper[:1] + ((((0, 0),), 1, ((True,),)),), "shape", 1)

    def test_exchanged_turned_and_multiplied(self):
        for many in range(2, 6):
            one, other = numbers_table(51, many, many, BIG), numbers_table(52, many, many, 99)
            number, factor = whole_corner(one), whole_corner(other)
            self.assertNotEqual(0, number)
            told = [
                (exchanged(one, 0, many - 1), -number), (turned(exchanged(turned(one), 0, 1)), -number),
                (turned(one), number), (times(one, other), number * factor),
            ]
            for table, corner in told:
                for rule in RULES:
                    paper = steps(table, rule, many)
                    self.assertIs(True, lets_corner(table, corner, paper))
                    self.refused(table, -corner, paper, "number", -1)

    def test_a_table_times_a_narrow_one(self):
        for rows, columns in [(1, 3), (2, 4), (3, 5), (3, 2)]:
            one, other = numbers_table(53, rows, columns, 99), numbers_table(54, columns, rows, 99)
            product = times(one, other)
            total = 0
            for picked in itertools.combinations(range(columns), rows):
                total += corner_told(one, range(rows), picked) * corner_told(other, picked, range(rows))
            self.assertIs(True, lets_corner(product, total, steps(product, "least", rows)))

    def test_a_square_table_of_six(self):
        table = numbers_table(55, 6, 6, 10 ** 30)
        self.assertIs(True, lets_corner(table, whole_corner(table), steps(table, "most", 6)))


if __name__ == "__main__":
    unittest.main()

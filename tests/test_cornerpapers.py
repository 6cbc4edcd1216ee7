import itertools
import unittest

from oracle import (
    BIG, ODD_THINGS, RULES, SQUARES, corner_told, just_tuples, last_told, numbers_table, refusal_of, stand_told,
    summed_table, told_alike, turn, whole_corner,
)
from cornersteps.cornerchecker import lets_corner
from cornersteps.cornerpapers import corner_paper
from cornersteps.tables import exchanged, times, turned


class CornerPapersTest(unittest.TestCase):
    def test_by_hand(self):
        table = ((0, 2), (3, 4))
        first = ((), 1, table)
        told = (-6, (first, (((1, 0),), 3, ((0, 6), (3, 4))), (((1, 0), (0, 1)), 6, ((0, 6), (6, 0)))))
        for rule in RULES:
            self.assertEqual(told, corner_paper(table, rule))
        self.assertEqual((5, (((), 1, ((5,),)), (((0, 0),), 5, ((5,),)))), corner_paper(((5,),), "first"))
        self.assertEqual((0, (((), 1, ((0,),)),)), corner_paper(((0,),), "most"))

    def test_the_corner_and_the_steps_of_all_columns(self):
        for table in SQUARES:
            for rule in RULES:
                told = told_alike(corner_paper, table, rule)
                self.assertIs(tuple, type(told))
                self.assertEqual(2, len(told))
                self.assertTrue(just_tuples(told))
                number, paper = told
                self.assertEqual(whole_corner(table), number)
                last = last_told(table, rule, len(table))
                papers = tuple(stand_told(table, last[0][:many]) for many in range(len(last[0]) + 1))
                self.assertEqual(papers, paper)

    def test_what_is_told_is_let_by_and_no_other_number(self):
        for table in SQUARES:
            for rule in RULES:
                number, paper = corner_paper(table, rule)
                self.assertIs(True, lets_corner(table, number, paper))
                self.assertEqual(("number", -1), refusal_of(lets_corner, table, number + 1, paper))
                for thing in ODD_THINGS:
                    place = 0 if isinstance(thing, tuple) and thing != () else -1
                    self.assertEqual(("shape", place), refusal_of(lets_corner, table, number, thing))

    def test_a_corner_of_0(self):
        tables = [
            ((2, 4), (1, 2)), ((0, 1), (0, 2)), ((0, 0), (1, 2)), ((1, 2, 3), (4, 5, 6), (7, 8, 9)),
            summed_table(61, 5, 5, BIG), ((0, 0, 0), (0, 0, 0), (0, 0, 0)),
        ]
        for table in tables:
            for rule in RULES:
                number, paper = corner_paper(table, rule)
                self.assertEqual(0, number)
                self.assertIs(int, type(number))
                self.assertIs(True, lets_corner(table, 0, paper))

    def test_signs_of_all_exchanges(self):
        for order in itertools.permutations(range(4)):
            table = tuple(tuple(7 if j == order[i] else 0 for j in range(4)) for i in range(4))
            for rule in RULES:
                self.assertEqual(whole_corner(table), corner_paper(table, rule)[0])
                self.assertIn(corner_paper(table, rule)[0], (7 ** 4, -7 ** 4))

    def test_exchanged_turned_and_multiplied(self):
        for many in range(2, 6):
            one, other = numbers_table(62, many, many, BIG), numbers_table(63, many, many, BIG)
            for rule in RULES:
                number, factor = corner_paper(one, rule)[0], corner_paper(other, rule)[0]
                self.assertNotEqual(0, number * factor)
                self.assertEqual(number, corner_paper(turned(one), rule)[0])
                self.assertEqual(number * factor, corner_paper(times(one, other), rule)[0])
                for i, j in itertools.combinations(range(many), 2):
                    self.assertEqual(-number, corner_paper(exchanged(one, i, j), rule)[0])
                    self.assertEqual(-number, corner_paper(turned(exchanged(turned(one), j, i)), rule)[0])

    def test_sums_over_all_picks(self):
        for rows, columns in [(1, 1), (1, 5), (2, 4), (3, 5), (4, 5), (5, 5), (3, 2), (4, 1)]:
            one, other = numbers_table(64, rows, columns, 999), numbers_table(65, columns, rows, 999)
            total = 0
            for picked in itertools.combinations(range(columns), rows):
                total += corner_told(one, range(rows), picked) * corner_told(other, picked, range(rows))
            for rule in RULES:
                self.assertEqual(total, corner_paper(times(one, other), rule)[0])

    def test_a_square_table_of_six_with_great_numbers(self):
        table = numbers_table(66, 6, 6, 10 ** 400 - 1)
        for rule in RULES:
            number, paper = corner_paper(table, rule)
            self.assertEqual(whole_corner(table), number)
            self.assertEqual(7, len(paper))
            self.assertIs(True, lets_corner(table, number, paper))
        self.assertEqual(whole_corner(table), corner_paper(turn(table), "first")[0])


if __name__ == "__main__":
    unittest.main()

import unittest

from oracle import (
    BIG, MANY_TABLES, RULES, just_told, just_tuples, last_told, lead_through, numbers_table, rank_told, refusal_of,
    stand_told, summed_table, told_alike, turn,
)
from cornersteps.rankchecker import lets_rank
from cornersteps.ranks import rank, rank_paper, relations
from cornersteps.tables import beside, times


def with_plain(table):
    rows = range(len(table))
    return tuple(table[i] + tuple(1 if i == j else 0 for j in rows) for i in rows)


def relations_told(table, rule):
    """Point 31's words, by a last stand each number of which is its own corner."""
    picked, _, numbers = last_told(with_plain(table), rule, len(table[0]))
    left = [i for i in range(len(table)) if i not in [row for row, _ in picked]]
    return tuple(numbers[i][-len(table):] for i in left)


class RankTest(unittest.TestCase):
    def test_by_hand(self):
        self.assertEqual(2, rank(((1, 2), (3, 4))))
        self.assertEqual(1, rank(((1, 2), (2, 4))))
        self.assertEqual(2, rank(((1, 2, 3), (4, 5, 6), (7, 8, 9))))
        self.assertEqual(1, rank(((0, 0), (0, 5))))

    def test_noughts_one_row_and_one_column(self):
        for rows, columns in [(1, 1), (1, 6), (5, 1), (5, 6)]:
            self.assertEqual(0, rank(((0,) * columns,) * rows))
        for table in [((7,),), ((0, 0, -1),), ((0,), (BIG,), (0,)), ((1,), (2,), (3,))]:
            self.assertEqual(1, rank(table))

    def test_against_all_corners_and_turned_alike(self):
        ranks = []
        for table in MANY_TABLES + [summed_table(161, 5, 6, 1), times(((1,), (2,), (3,)), ((4, 5, 6, 7),))]:
            told = told_alike(rank, table)
            self.assertIs(int, type(told))
            self.assertEqual(rank_told(table), told)
            self.assertEqual(told, rank(turn(table)))
            ranks.append(told)
        self.assertEqual({0, 1, 2, 3, 4, 5}, set(ranks))

    def test_tables_of_any_rank(self):
        for rows, columns in [(2, 2), (3, 5), (5, 4), (5, 6)]:
            for many in range(1, min(rows, columns) + 1):
                table = times(numbers_table(162, rows, many, 9), numbers_table(163, many, columns, 9))
                self.assertEqual(rank_told(table), rank(table))
                self.assertEqual(many, rank(table))

    def test_tables_told_here(self):
        self.assertEqual(6, rank(numbers_table(164, 6, 12, 10 ** 400 - 1)))
        self.assertEqual(5, rank(summed_table(165, 6, 12, 10 ** 399)))
        self.assertEqual(5, rank(turn(numbers_table(166, 5, 6, BIG))))
        self.assertEqual(5, rank(beside(((0,) * 6,) * 5, numbers_table(167, 5, 6, BIG))))


class RankPaperTest(unittest.TestCase):
    def test_the_steps_of_all_columns(self):
        for table in MANY_TABLES:
            for rule in RULES:
                paper = told_alike(rank_paper, table, rule)
                self.assertIs(tuple, type(paper))
                self.assertTrue(just_tuples(paper))
                last = last_told(table, rule, len(table[0]))
                told = tuple(stand_told(table, last[0][:many]) for many in range(len(last[0]) + 1))
                self.assertEqual(told, paper)

    def test_it_is_let_by_with_the_rank_alone(self):
        for table in MANY_TABLES:
            for shown in (table, turn(table)):
                for rule in RULES:
                    paper = rank_paper(shown, rule)
                    self.assertIs(True, lets_rank(shown, rank(table), paper))
                    self.assertEqual(("many", -1), refusal_of(lets_rank, shown, rank(table) + 1, paper))
                    self.assertEqual(("many", -1), refusal_of(lets_rank, shown, rank(table) - 1, paper))

    def test_by_hand(self):
        table = ((0, 2), (0, -1))
        first = ((), 1, table)
        self.assertEqual((first, (((0, 1),), 2, ((0, 2), (0, 0)))), rank_paper(table, "first"))
        self.assertEqual((first, (((1, 1),), -1, ((0, 0), (0, -1)))), rank_paper(table, "least"))
        self.assertEqual((((), 1, ((0,),)),), rank_paper(((0,),), "most"))


class RelationsTest(unittest.TestCase):
    def test_by_hand(self):
        self.assertEqual(((-2, 1),), relations(((1, 2), (2, 4)), "first"))
        self.assertEqual(((2, -1),), relations(((1, 2), (2, 4)), "most"))
        self.assertEqual(((-3, 6, -3),), relations(((1, 2, 3), (4, 5, 6), (7, 8, 9)), "first"))
        self.assertEqual(((1, 0), (0, 1)), relations(((0,), (0,)), "first"))
        self.assertEqual(((1,),), relations(((0, 0, 0),), "least"))
        self.assertEqual(((0, 0, 5),), relations(((5, 0), (0, 1), (0, 0)), "first"))

    def test_none_where_each_row_is_in_a_pair(self):
        for table in [((7,),), ((1, 2), (3, 4)), ((0, 0, 6),), numbers_table(171, 3, 5, BIG)]:
            for rule in RULES:
                self.assertEqual((), relations(table, rule))
                self.assertIs(tuple, type(relations(table, rule)))

    def test_number_by_number_and_led_through(self):
        for table in MANY_TABLES:
            for rule in RULES:
                told = told_alike(relations, table, rule)
                self.assertEqual(relations_told(table, rule), told)
                self.assertTrue(just_told(told))
                self.assertEqual(len(table) - rank_told(table), len(told))
                picked, under, _ = last_told(table, rule, len(table[0]))
                left = [i for i in range(len(table)) if i not in [row for row, _ in picked]]
                for i, relation in zip(left, told):
                    self.assertEqual((0,) * len(table[0]), lead_through(relation, table))
                    self.assertEqual([under if k == i else 0 for k in left], [relation[k] for k in left])

    def test_several_rows_rising(self):
        table = ((2, 4), (0, 0), (3, 6), (-2, -4), (1, 2))
        told = relations(table, "first")
        self.assertEqual(4, len(told))
        self.assertEqual(((0, 2, 0, 0, 0), (-3, 0, 2, 0, 0), (2, 0, 0, 2, 0), (-1, 0, 0, 0, 2)), told)
        self.assertEqual([0, 1, 2, 3], [relation.index(1) for relation in relations(table, "least")])

    def test_tables_told_here(self):
        for table in (turn(numbers_table(172, 5, 6, BIG)), summed_table(173, 6, 12, 10 ** 399),
                      beside(((0,) * 6,) * 5, summed_table(174, 5, 6, BIG))):
            for rule in RULES:
                told = relations(table, rule)
                self.assertEqual(len(table) - rank(table), len(told))
                for relation in told:
                    self.assertEqual(len(table), len(relation))
                    self.assertTrue(any(relation))
                    self.assertEqual((0,) * len(table[0]), lead_through(relation, table))


if __name__ == "__main__":
    unittest.main()

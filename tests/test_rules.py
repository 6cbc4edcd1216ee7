import copy
import unittest

from oracle import BIG, MANY_TABLES, ODD_THINGS, RULES, just_tuples, numbers_table, pair_told, stand_told
from cornersteps.rules import is_rule, next_pair, steps
from cornersteps.stands import first_stand, stepped


class RulesTest(unittest.TestCase):
    def test_the_three_rules(self):
        for rule in RULES:
            self.assertIs(True, is_rule(rule))

    def test_other_things_are_no_rules(self):
        misses = [
            "", "First", "firs", "first ", " first", "leastmost", "last", "greatest", True, False, None, 0, 1,
            ("first",), ["first"], ("first", "least", "most"), {"first": 1}, RULES, list(RULES),
        ]
        for thing in misses + [thing for thing in ODD_THINGS if thing != "first"]:
            self.assertIs(False, is_rule(thing), thing)

    def test_what_is_asked_stays_and_is_told_alike_again(self):
        thing = ["first", {"least": ["most"]}]
        kept = copy.deepcopy(thing)
        self.assertEqual([False, False], [is_rule(thing), is_rule(thing)])
        self.assertEqual(kept, thing)


class NextPairTest(unittest.TestCase):
    def test_sizes_without_signs_and_the_least_of_several_rows(self):
        table = ((0, 5), (3, 1), (-2, 1), (2, 9), (-7, 1), (7, 1))
        stand = first_stand(table)
        self.assertEqual([(1, 0), (2, 0), (4, 0)], [next_pair(stand, rule, 2) for rule in RULES])
        table = ((0, 5), (-3, 1), (2, 1), (-2, 9), (7, 1), (-7, 1))
        stand = first_stand(table)
        self.assertEqual([(1, 0), (2, 0), (4, 0)], [next_pair(stand, rule, 2) for rule in RULES])
        self.assertEqual((0, 0), next_pair(first_stand(((-1,), (1,))), "least", 1))
        self.assertEqual((0, 0), next_pair(first_stand(((-1,), (1,))), "most", 1))

    def test_of_the_first_so_many_columns(self):
        stand = first_stand(((0, 0, 4), (0, 5, 6)))
        for rule in RULES:
            self.assertIsNone(next_pair(stand, rule, 0))
            self.assertIsNone(next_pair(stand, rule, 1))
            self.assertEqual((1, 1), next_pair(stand, rule, 2))
            self.assertEqual((1, 1), next_pair(stand, rule, 3))
            behind = stepped(stand, 1, 1)
            self.assertIsNone(next_pair(behind, rule, 2))
            self.assertEqual((0, 2), next_pair(behind, rule, 3))
            self.assertIsNone(next_pair(stepped(behind, 0, 2), rule, 3))

    def test_rows_and_columns_in_pairs_are_passed_over(self):
        table = ((1, 2, 3), (4, 5, 6), (7, 8, 10))
        behind = stepped(first_stand(table), 1, 0)
        self.assertEqual((0, 1), next_pair(behind, "first", 3))
        behind = stepped(first_stand(table), 0, 1)
        self.assertEqual((1, 0), next_pair(behind, "first", 3))
        self.assertEqual((1, 0), next_pair(behind, "least", 3))
        self.assertIsNone(next_pair(first_stand(((0, 0), (0, 0))), "first", 2))
        # The numbers of a row in a pair aren't 0 at a column in no pair, and yet it isn't taken.
        self.assertIsNone(next_pair(stepped(first_stand(((1, 2), (2, 4))), 0, 0), "most", 2))

    def test_a_pair_is_a_tuple_of_whole_numbers(self):
        pair = next_pair(first_stand(((0, 2), (0, 3))), "most", 2)
        self.assertEqual((1, 1), pair)
        self.assertTrue(just_tuples(pair))

    def test_next_pairs_of_many_stands(self):
        for table in MANY_TABLES:
            for rule in RULES:
                for stand in steps(table, rule, len(table[0])):
                    kept = copy.deepcopy(stand)
                    for wide in range(len(table[0]) + 1):
                        for other in RULES:
                            told = next_pair(stand, other, wide)
                            self.assertEqual(pair_told(stand, other, wide), told)
                            self.assertEqual(told, next_pair(stand, other, wide))
                    self.assertEqual(kept, stand)


class StepsTest(unittest.TestCase):
    def test_steps_by_hand(self):
        table = ((2, 1), (-1, 3))
        first = first_stand(table)
        self.assertEqual((first,), steps(table, "first", 0))
        self.assertEqual((first, (((0, 0),), 2, ((2, 1), (0, 7)))), steps(table, "first", 1))
        self.assertEqual((first, (((1, 0),), -1, ((0, -7), (-1, 3)))), steps(table, "least", 1))
        told = (first, (((0, 0),), 2, ((2, 1), (0, 7))), (((0, 0), (1, 1)), 7, ((7, 0), (0, 7))))
        self.assertEqual(told, steps(table, "most", 2))
        self.assertEqual((first_stand(((0, 0),)),), steps(((0, 0),), "first", 2))

    def test_each_number_is_the_corner_told_by_each_rule_and_each_wide(self):
        for table in MANY_TABLES:
            for rule in RULES:
                for wide in range(len(table[0]) + 1):
                    told = steps(table, rule, wide)
                    self.assertIs(tuple, type(told))
                    self.assertTrue(just_tuples(told))
                    self.assertEqual(((), 1, table), told[0])
                    for ahead, stand in zip(told, told[1:]):
                        self.assertEqual(ahead[0] + (pair_told(ahead, rule, wide),), stand[0])
                        self.assertEqual(stepped(ahead, *stand[0][-1]), stand)
                    self.assertIsNone(pair_told(told[-1], rule, wide))
                for stand in told:
                    self.assertEqual(stand_told(table, stand[0]), stand)

    def test_columns_that_are_left_out_do_not_hinder(self):
        table = ((0, 1, 2), (0, 3, 4))
        self.assertEqual([((), ((0, 1),), ((0, 1), (1, 2)))], [tuple(stand[0] for stand in steps(table, "first", 3))])
        self.assertEqual([((), ((1, 1),), ((1, 1), (0, 2)))], [tuple(stand[0] for stand in steps(table, "most", 3))])

    def test_rows_that_are_sums_of_others(self):
        table = ((1, 2, 3), (4, 5, 6), (5, 7, 9), (BIG, 0, 0))
        for rule in RULES:
            told = steps(table, rule, 3)
            self.assertEqual(3, len(told[-1][0]))
            left = [i for i in range(4) if i not in [row for row, _ in told[-1][0]]]
            self.assertEqual([(0, 0, 0)], [told[-1][2][i] for i in left])

    def test_tables_that_were_told_here(self):
        table = numbers_table(31, 6, 12, 10 ** 20)
        for rule in RULES:
            told = steps(table, rule, 12)
            self.assertEqual(7, len(told))
            self.assertEqual(stand_told(table, told[-1][0])[1], told[-1][1])

    def test_what_is_handed_in_stays_and_is_told_alike_again(self):
        table = ((3, 1, 2), (4, 1, 5))
        kept = copy.deepcopy(table)
        for rule in RULES:
            self.assertEqual(steps(table, rule, 3), steps(table, rule, 3))
        self.assertEqual(kept, table)


if __name__ == "__main__":
    unittest.main()

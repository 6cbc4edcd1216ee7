import unittest

from oracle import (
    BIG, MANY_TABLES, RULES, just_told, last_told, lead_home, lead_through, numbers_table, rank_told, refusal_of,
    summed_table, told_alike, turn,
)
from cornersteps.answerchecker import lets_answer
from cornersteps.answers import answered, ways
from cornersteps.rules import steps
from cornersteps.tables import beside, plain


def with_sides(table, right):
    """The table, the right side as a column, and the plain table, side by side."""
    rows = range(len(table))
    return tuple(table[i] + (right[i],) + tuple(1 if i == j else 0 for j in rows) for i in rows)


def answered_told(table, right, rule):
    """Point 21's words, by a last stand each number of which is its own corner."""
    wide = len(table[0])
    picked, under, numbers = last_told(with_sides(table, right), rule, wide)
    for i in range(len(table)):
        if i not in [row for row, _ in picked] and numbers[i][wide] != 0:
            return ("none", numbers[i][-len(table):])
    tops = {column: numbers[row][wide] for row, column in picked}
    return ("answer", tuple(tops.get(j, 0) for j in range(wide)), under)


def ways_told(table, rule):
    """Point 22's words, by such a last stand."""
    wide = len(table[0])
    picked, under, numbers = last_told(table, rule, wide)
    row_of = {column: row for row, column in picked}
    told = []
    for free in range(wide):
        if free not in row_of:
            way = [-numbers[row_of[j]][free] if j in row_of else 0 for j in range(wide)]
            way[free] = under
            told.append(tuple(way))
    return tuple(told)


def right_sides(table, seed):
    """Right sides with an answer, and ones that mostly have none."""
    many = len(table)
    good = lead_home(table, numbers_table(seed + 80, 1, len(table[0]), 9)[0])
    return [(0,) * many, good, tuple(number + 1 for number in good), good[:-1] + (good[-1] - BIG,),
            (1,) + (0,) * (many - 1), numbers_table(seed + 81, 1, many, 10 ** 12 - 1)[0]]


class AnsweredTest(unittest.TestCase):
    def test_by_hand(self):
        self.assertEqual(("answer", (8, -9), -2), answered(((1, 2), (3, 4)), (5, 6), "first"))
        self.assertEqual(("answer", (-8, 9), 2), answered(((1, 2), (3, 4)), (5, 6), "most"))
        self.assertEqual(("none", (-2, 1)), answered(((1, 2), (2, 4)), (1, 3), "first"))
        self.assertEqual(("none", (2, -1)), answered(((1, 2), (2, 4)), (1, 3), "most"))
        self.assertEqual(("answer", (3, 0), 1), answered(((1, 2), (2, 4)), (3, 6), "first"))
        self.assertEqual(("answer", (0, 7, 0), 2), answered(((0, 2, 5),), (7,), "least"))
        self.assertEqual(("answer", (3,), 2), answered(((2,), (4,)), (3, 6), "first"))
        self.assertEqual(("none", (-4, 2)), answered(((2,), (4,)), (3, 7), "first"))

    def test_tables_of_noughts(self):
        for rule in RULES:
            table = ((0, 0, 0), (0, 0, 0))
            self.assertEqual(("answer", (0, 0, 0), 1), answered(table, (0, 0), rule))
            self.assertEqual(("none", (1, 0)), answered(table, (4, 5), rule))
            self.assertEqual(("none", (0, 1)), answered(table, (0, 5), rule))
            self.assertEqual(("answer", (0,), 1), answered(((0,),), (0,), rule))
            self.assertEqual(("none", (1,)), answered(((0,),), (-9,), rule))

    def test_the_least_of_several_rows_that_bar(self):
        table = ((1, 1), (1, 1), (1, 1), (1, 1))
        self.assertEqual(("none", (-1, 0, 1, 0)), answered(table, (5, 5, 6, 7), "first"))
        self.assertEqual(("none", (-1, 1, 0, 0)), answered(table, (5, 6, 5, 7), "least"))
        self.assertEqual(("none", (-1, 0, 0, 1)), answered(table, (5, 5, 5, 7), "most"))
        self.assertEqual(("answer", (5, 0), 1), answered(table, (5, 5, 5, 5), "most"))

    def test_number_by_number_against_corners(self):
        words = {"answer": 0, "none": 0}
        for seed, table in enumerate(MANY_TABLES):
            for right in right_sides(table, seed):
                for rule in RULES:
                    told = told_alike(answered, table, right, rule)
                    self.assertEqual(answered_told(table, right, rule), told)
                    self.assertTrue(just_told(told))
                    self.assertIs(True, told_alike(lets_answer, table, right, told))
                    words[told[0]] += 1
        self.assertTrue(min(words.values()) > 100)

    def test_an_answer_just_where_the_right_side_adds_no_rank(self):
        for seed, table in enumerate(MANY_TABLES):
            for right in right_sides(table, seed):
                more = tuple(row + (number,) for row, number in zip(table, right))
                word = "answer" if rank_told(more) == rank_told(table) else "none"
                self.assertEqual({word}, {answered(table, right, rule)[0] for rule in RULES})

    def test_steps_stay_in_the_tables_own_columns(self):
        # No column of the table can be picked, yet the right side's could be.
        for rule in RULES:
            self.assertEqual(("none", (0, 1, 0)), answered(((0,), (0,), (0,)), (0, 3, 9), rule))

    def test_the_other_word_is_not_let_by(self):
        for seed, table in enumerate(MANY_TABLES):
            for right in right_sides(table, seed):
                told = answered(table, right, "least")
                if told[0] == "answer":
                    for factors in turn(plain(len(table))) + ((1,) * len(table), (0,) * len(table)):
                        self.assertIn(
                            refusal_of(lets_answer, table, right, ("none", factors))[0], ("column", "right"))
                else:
                    for tops in plain(len(table[0])) + ((0,) * len(table[0]),):
                        self.assertEqual("row", refusal_of(lets_answer, table, right, ("answer", tops, 1))[0])

    def test_a_table_turned_of_six_rows(self):
        table = turn(numbers_table(82, 5, 6, BIG))
        self.assertEqual((6, 5), (len(table), len(table[0])))
        for right in (lead_home(table, (1, -2, 3, -4, 5)), (1, 2, 3, 4, 5, 6)):
            for rule in RULES:
                told = answered(table, right, rule)
                self.assertEqual(answered_told(table, right, rule), told)
                self.assertIs(True, lets_answer(table, right, told))
        self.assertEqual("none", told[0])

    def test_a_table_beside_noughts_of_twelve_columns(self):
        noughts = ((0,) * 6,) * 5
        for table in (beside(numbers_table(83, 5, 6, BIG), noughts), beside(noughts, summed_table(84, 5, 6, BIG))):
            self.assertEqual(12, len(table[0]))
            for right in ((1, 2, 3, 4, 10), (1, 2, 3, 4, 11)):
                for rule in RULES:
                    told = answered(table, right, rule)
                    self.assertEqual(answered_told(table, right, rule), told)
                    self.assertIs(True, lets_answer(table, right, told))

    def test_great_numbers(self):
        table, right = numbers_table(85, 6, 12, 10 ** 400 - 1), numbers_table(86, 1, 6, 10 ** 400 - 1)[0]
        for rule in RULES:
            told = answered(table, right, rule)
            self.assertEqual("answer", told[0])
            self.assertIs(True, lets_answer(table, right, told))
            self.assertEqual([0] * 6, list(told[1][6:]))


class WaysTest(unittest.TestCase):
    def test_by_hand(self):
        self.assertEqual(((-2, 1),), ways(((1, 2), (2, 4)), "first"))
        self.assertEqual(((-4, 2),), ways(((1, 2), (2, 4)), "most"))
        self.assertEqual(((2, 0, 0), (0, -5, 2)), ways(((0, 2, 5),), "first"))
        self.assertEqual(((1, 0), (0, 1)), ways(((0, 0), (0, 0)), "least"))
        self.assertEqual(((1,),), ways(((0,), (0,)), "first"))
        self.assertEqual(((-3, 6, -3),), ways(((1, 2, 3), (4, 5, 6), (7, 8, 9)), "first"))

    def test_none_where_each_column_is_in_a_pair(self):
        for table in [((7,),), ((1, 2), (3, 4)), ((0,), (0,), (6,)), numbers_table(87, 5, 3, BIG)]:
            for rule in RULES:
                self.assertEqual((), ways(table, rule))
                self.assertIs(tuple, type(ways(table, rule)))

    def test_number_by_number_and_led_home(self):
        for table in MANY_TABLES:
            wide = len(table[0])
            for rule in RULES:
                told = told_alike(ways, table, rule)
                self.assertEqual(ways_told(table, rule), told)
                self.assertTrue(just_told(told))
                self.assertEqual(wide - rank_told(table), len(told))
                for way in told:
                    self.assertEqual((0,) * len(table), lead_home(table, way))

    def test_they_make_up_all_that_answers_differ_by(self):
        for seed, table in enumerate(MANY_TABLES):
            right = lead_home(table, numbers_table(seed + 88, 1, len(table[0]), 9)[0])
            for rule, other in zip(RULES, RULES[1:] + RULES[:1]):
                stand = steps(table, rule, len(table[0]))[-1]
                free = [j for j in range(len(table[0])) if j not in [column for _, column in stand[0]]]
                _, tops, under = answered(table, right, rule)
                for more, over in [answered(table, right, other)[1:], (self.first_answer(table, right))]:
                    differ = tuple(a * over - b * under for a, b in zip(tops, more))
                    self.assertEqual((0,) * len(table), lead_home(table, differ))
                    made = [0] * len(table[0])
                    for at, way in zip(free, ways(table, rule)):
                        made = [a + differ[at] * b for a, b in zip(made, way)]
                    self.assertEqual([stand[1] * number for number in differ], made)

    def first_answer(self, table, right):
        """An answer that differs by a sum of all ways."""
        _, tops, under = answered(table, right, "most")
        told = list(tops)
        for many, way in enumerate(ways(table, "most")):
            told = [a + (many + 2) * b for a, b in zip(told, way)]
        self.assertIs(True, lets_answer(table, right, ("answer", tuple(told), under)))
        return (tuple(told), under)

    def test_turned_and_beside_noughts(self):
        table = turn(numbers_table(89, 5, 6, BIG))
        wide = beside(numbers_table(90, 5, 6, BIG), ((0,) * 6,) * 5)
        for rule in RULES:
            self.assertEqual((), ways(table, rule))
            self.assertEqual(ways_told(wide, rule), ways(wide, rule))
            self.assertEqual(7, len(ways(wide, rule)))
            great = numbers_table(91, 6, 12, 10 ** 400 - 1)
            for way in ways(great, rule):
                self.assertEqual((0,) * 6, lead_home(great, way))


class PromiseTest(unittest.TestCase):
    def test_factors_led_through_come_to_noughts(self):
        for seed in range(6):
            table = summed_table(seed + 92, 5, 4, 99)
            right = (1, 1, 1, 1, 1)
            for rule in RULES:
                word, factors = answered(table, right, rule)
                self.assertEqual("none", word)
                self.assertEqual((0,) * 4, lead_through(factors, table))
                self.assertNotEqual(0, sum(factors))


if __name__ == "__main__":
    unittest.main()

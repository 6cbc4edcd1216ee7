import unittest

from oracle import (
    BIG, MANY_TABLES, ODD_THINGS, lead_home, lead_through, numbers_table, put, put_deep, refusal_of, summed_table,
    told_alike,
)
from cornersteps.answerchecker import lets_answer

GREAT = 10 ** 400 - 1
# Two by three; the third row below is the sum of the first two.
TABLE = ((1, 2, 3), (4, 5, 6))
SUMMED = ((1, 2), (3, -4), (4, -2))


def scaled(factor, row):
    return tuple(factor * number for number in row)


class AnswersLetByTest(unittest.TestCase):
    def test_by_hand(self):
        self.assertIs(True, lets_answer(((2,),), (3,), ("answer", (3,), 2)))
        self.assertIs(True, lets_answer(((2,),), (3,), ("answer", (-3,), -2)))
        self.assertIs(True, lets_answer(((2,),), (4,), ("answer", (2,), 1)))
        self.assertIs(True, lets_answer(((1, 2), (3, 4)), (5, 6), ("answer", (8, -9), -2)))
        self.assertIs(True, lets_answer(((0, 0),), (0,), ("answer", (7, -7), 5)))

    def test_over_any_under(self):
        for seed, table in enumerate(MANY_TABLES):
            tops = numbers_table(seed + 70, 1, len(table[0]), 50)[0]
            right = lead_home(table, tops)
            for under in (1, -1, 2, -6, BIG, GREAT, -GREAT):
                self.assertIs(True, told_alike(lets_answer, table, right, ("answer", scaled(under, tops), under)))
                # A right side that is so many times as small: the tops themselves are the answer over the under.
                wide = scaled(under, right)
                self.assertIs(True, lets_answer(table, wide, ("answer", scaled(under, tops), 1)))
                self.assertIs(True, lets_answer(table, wide, ("answer", scaled(-3 * under, tops), -3)))

    def test_noughts_are_an_answer_of_noughts(self):
        for table in MANY_TABLES:
            noughts = (0,) * len(table)
            self.assertIs(True, lets_answer(table, noughts, ("answer", (0,) * len(table[0]), -GREAT)))

    def test_tables_of_six_rows_and_of_twelve_columns(self):
        for rows, columns in [(6, 5), (6, 12), (1, 12), (6, 1)]:
            table = numbers_table(71, rows, columns, GREAT)
            tops = numbers_table(72, 1, columns, GREAT)[0]
            right = lead_home(table, tops)
            self.assertIs(True, lets_answer(table, right, ("answer", scaled(-7, tops), -7)))
            self.assertEqual(("row", 0), refusal_of(lets_answer, table, right, ("answer", scaled(-7, tops), 7)))


class FactorsLetByTest(unittest.TestCase):
    def test_by_hand(self):
        self.assertIs(True, lets_answer(((0,),), (3,), ("none", (1,))))
        self.assertIs(True, lets_answer(((0, 0),), (-3,), ("none", (-GREAT,))))
        self.assertIs(True, lets_answer(((1,), (2,)), (1, 3), ("none", (2, -1))))

    def test_so_many_times_as_great(self):
        for seed in range(4):
            table = summed_table(seed + 73, 5, 5, BIG)
            right = (1, 2, 3, 4, 11)
            for factor in (1, -1, 5, -BIG, GREAT):
                paper = ("none", scaled(factor, (1, 1, 1, 1, -1)))
                self.assertIs(True, told_alike(lets_answer, table, right, paper))

    def test_one_number_of_the_right_side_decides(self):
        for number in range(-10, 10):
            right = (3, 4, number)
            paper = ("none", (1, 1, -1))
            if number == 7:
                self.assertEqual(("right", 0), refusal_of(lets_answer, SUMMED, right, paper))
            else:
                self.assertIs(True, lets_answer(SUMMED, right, paper))


class ShapesTest(unittest.TestCase):
    def test_any_things(self):
        for table, right in [(TABLE, (6, 15)), (((0,),), (1,)), (((1,),), (1,)), (SUMMED, (0, 0, 1))]:
            for thing in ODD_THINGS + ["answer", "none", ("answer",), ("none",), {"answer": (1, 1)}]:
                self.assertEqual(("shape", 0), refusal_of(lets_answer, table, right, thing))

    def test_near_misses_of_an_answer(self):
        right = (6, 15)
        tops = (1, 1, 1)
        self.assertIs(True, lets_answer(TABLE, right, ("answer", tops, 1)))
        misses = [
            ["answer", tops, 1], ("answer", list(tops), 1), ("answer", tops, [1]), ("answer", tops, (1,)),
            ("answer", tops), ("answer", tops, 1, 1), ("answer", 1, tops), (tops, 1), (tops, 1, "answer"),
            ("answer", 1), ("answer",), ("Answer", tops, 1), ("answer ", tops, 1), ("answers", tops, 1),
            ("none", tops, 1), ("back", tops, 1), (None, tops, 1), (True, tops, 1), (("answer",), tops, 1),
            ("answer", tops + (0,), 1), ("answer", tops[1:], 1), ("answer", (), 1), ("answer", (tops,), 1),
            ("answer", (1, 1), 1), ("answer", tops, 0), ("answer", (0, 0, 0), 0), ("answer", tops, True),
            ("answer", tops, False), ("answer", tops, None), ("answer", tops, "1"), ("answer", None, 1),
            ("answer", "111", 1), ("answer", {0: 1, 1: 1, 2: 1}, 1), {"answer": tops, "under": 1},
        ]
        for thing in misses:
            self.assertEqual(("shape", 0), refusal_of(lets_answer, TABLE, right, thing))
        for place in range(3):
            for part in (True, False, None, "1", [1], (1,), {}):
                thing = ("answer", put(tops, place, part), 1)
                self.assertEqual(("shape", 0), refusal_of(lets_answer, TABLE, right, thing))

    def test_near_misses_of_factors(self):
        right = (1, 1, 1)
        factors = (1, 1, -1)
        self.assertIs(True, lets_answer(SUMMED, right, ("none", factors)))
        misses = [
            ["none", factors], ("none", list(factors)), ("none",), ("none", factors, 1), ("none", factors, factors),
            ("None", factors), ("nothing", factors), (" none", factors), ("answer", factors), (None, factors),
            (factors, "none"), ("none", factors + (0,)), ("none", factors[:2]), ("none", ()), ("none", 1),
            ("none", (factors,)), ("none", None), ("none", "11-"), ("none", {0: 1}), ("none", factors, 1, 1),
            (False, factors), {"none": factors},
        ]
        for thing in misses:
            self.assertEqual(("shape", 0), refusal_of(lets_answer, SUMMED, right, thing))
        for place in range(3):
            for part in (True, False, None, "1", [1], (1,)):
                thing = put_deep(("none", factors), (1, place), part)
                self.assertEqual(("shape", 0), refusal_of(lets_answer, SUMMED, right, thing))

    def test_tops_are_as_many_as_columns_and_factors_as_many_as_rows(self):
        wide, tall = ((0, 0, 0), (0, 0, 0)), ((0, 0), (0, 0), (0, 0))
        self.assertEqual(("shape", 0), refusal_of(lets_answer, wide, (0, 0), ("answer", (1, 1), 1)))
        self.assertEqual(("shape", 0), refusal_of(lets_answer, wide, (1, 1), ("none", (1, 1, 1))))
        self.assertEqual(("shape", 0), refusal_of(lets_answer, tall, (0, 0, 0), ("answer", (1, 1, 1), 1)))
        self.assertEqual(("shape", 0), refusal_of(lets_answer, tall, (1, 1, 1), ("none", (1, 1))))
        self.assertIs(True, lets_answer(wide, (0, 0), ("answer", (1, 1, 1), 1)))
        self.assertIs(True, lets_answer(tall, (1, 1, 1), ("none", (1, 1, 1))))


class AmissTest(unittest.TestCase):
    def test_the_first_of_several_rows(self):
        table = numbers_table(74, 5, 6, BIG)
        tops = numbers_table(75, 1, 6, BIG)[0]
        for under in (1, -4, GREAT):
            right = lead_home(table, tops)
            paper = ("answer", scaled(under, tops), under)
            for first in range(5):
                for other in range(first, 5):
                    amiss = put(right, first, right[first] + 1)
                    if other != first:
                        amiss = put(amiss, other, right[other] - GREAT)
                    self.assertEqual(("row", first), refusal_of(lets_answer, table, amiss, paper))

    def test_tops_under_and_signs_count(self):
        right = (6, 15)
        self.assertIs(True, lets_answer(TABLE, right, ("answer", (2, 2, 2), 2)))
        for thing in [("answer", (2, 2, 2), 1), ("answer", (2, 2, 2), -2), ("answer", (-2, -2, -2), 2),
                      ("answer", (2, 2, 3), 2), ("answer", (0, 0, 0), 2)]:
            self.assertEqual(("row", 0), refusal_of(lets_answer, TABLE, right, thing))
        # Right at the first row alone.
        self.assertEqual(("row", 1), refusal_of(lets_answer, TABLE, right, ("answer", (4, 1, 0), 1)))
        self.assertEqual(("row", 2), refusal_of(lets_answer, SUMMED, (1, 3, 5), ("answer", (1, 0), 1)))

    def test_the_first_of_several_columns(self):
        factors = (2, 3, -1)
        for first in range(4):
            for other in range(first, 4):
                rows = [(1, 2, 3, 4), (5, -6, 7, -8)]
                last = lead_through(factors[:2], rows)
                last = put(last, first, last[first] + 1)
                if other != first:
                    last = put(last, other, last[other] - BIG)
                table = tuple(rows) + (last,)
                for right in [(1, 1, 1), (0, 0, 0), (1, 1, 5)]:
                    self.assertEqual(("column", first), refusal_of(lets_answer, table, right, ("none", factors)))

    def test_products_that_sum_to_0(self):
        for right in [(0, 0, 0), (1, -1, 0), (3, 4, 7), (BIG, -BIG, 0), (0, GREAT, GREAT)]:
            for factor in (1, -2, GREAT):
                thing = ("none", scaled(factor, (1, 1, -1)))
                self.assertEqual(("right", 0), refusal_of(lets_answer, SUMMED, right, thing))

    def test_factors_that_are_noughts_alone(self):
        for table in MANY_TABLES:
            for right in [(0,) * len(table), (1,) * len(table)]:
                self.assertEqual(("right", 0), refusal_of(lets_answer, table, right, ("none", (0,) * len(table))))

    def test_never_both_whoever_wrote_them(self):
        for table in [((1, 2), (2, 4)), ((1, 2), (3, 4)), ((0, 0), (0, 1)), ((0, 0), (0, 0))]:
            for right in [(0, 0), (1, 2), (2, 1), (0, 1), (1, 0)]:
                answers, factors = 0, 0
                for a in range(-6, 7):
                    for b in range(-6, 7):
                        factors += self.is_let_by(table, right, ("none", (a, b)))
                        answers += sum(self.is_let_by(table, right, ("answer", (a, b), c)) for c in (-2, -1, 1, 2))
                self.assertEqual(1, (answers > 0) + (factors > 0), (table, right))

    def is_let_by(self, table, right, thing):
        if thing[0] == "none":
            through = lead_through(thing[1], table)
            good = not any(through) and sum(a * b for a, b in zip(thing[1], right)) != 0
        else:
            good = lead_home(table, thing[1]) == scaled(thing[2], right)
        if good:
            self.assertIs(True, lets_answer(table, right, thing))
        else:
            self.assertIn(refusal_of(lets_answer, table, right, thing)[0], ("row", "column", "right"))
        return good


if __name__ == "__main__":
    unittest.main()

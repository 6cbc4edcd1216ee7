import unittest

from oracle import (
    BIG, ODD_THINGS, SQUARES, adjoined, determinant, lead_through, numbers_table, put, put_deep, refusal_of,
    summed_table, told_alike, turn,
)
from cornersteps.backchecker import lets_back
from cornersteps.tables import plain

GREAT = 10 ** 400 - 1
TABLE = ((1, 2), (3, 4))
BACK = ("back", ((4, -2), (-3, 1)), -2)


def back_of(table, factor):
    """A back by corners, so many times as great."""
    numbers = tuple(tuple(factor * number for number in row) for row in adjoined(table))
    return ("back", numbers, factor * determinant(table))


class LetByTest(unittest.TestCase):
    def test_by_hand(self):
        self.assertIs(True, lets_back(TABLE, BACK))
        self.assertIs(True, lets_back(TABLE, ("back", ((-4, 2), (3, -1)), 2)))
        self.assertIs(True, lets_back(((5,),), ("back", ((1,),), 5)))
        self.assertIs(True, lets_back(((5,),), ("back", ((-7,),), -35)))
        self.assertIs(True, lets_back(((0,),), ("none", (-3,))))
        self.assertIs(True, lets_back(((1, 2), (2, 4)), ("none", (2, -1))))

    def test_backs_over_any_under(self):
        backs = 0
        for table in SQUARES + [numbers_table(101, 6, 6, 99), numbers_table(102, 6, 6, GREAT)]:
            if determinant(table) != 0:
                backs += 1
                for factor in (1, -1, 2, -BIG, GREAT):
                    self.assertIs(True, told_alike(lets_back, table, back_of(table, factor)))
        self.assertTrue(backs > 8)

    def test_an_under_that_is_less_than_the_corner(self):
        table = ((2, 0), (0, 2))
        self.assertIs(True, lets_back(table, ("back", ((1, 0), (0, 1)), 2)))
        self.assertIs(True, lets_back(table, ("back", ((2, 0), (0, 2)), 4)))

    def test_the_other_way_round_it_is_so_too(self):
        for table in SQUARES:
            if determinant(table) != 0:
                word, numbers, under = back_of(table, 1)
                self.assertIs(True, lets_back(numbers, (word, table, under)))
                self.assertIs(True, lets_back(turn(table), (word, turn(numbers), under)))

    def test_factors(self):
        for many in range(2, 6):
            table = summed_table(103, many, many, BIG)
            for factor in (1, -1, 3, GREAT, -GREAT):
                factors = (factor,) * (many - 1) + (-factor,)
                self.assertIs(True, told_alike(lets_back, table, ("none", factors)))

    def test_factors_with_noughts_among_them(self):
        table = ((1, 2, 3), (0, 0, 0), (4, 5, 6))
        self.assertIs(True, lets_back(table, ("none", (0, 1, 0))))
        self.assertIs(True, lets_back(((0, 0), (0, 0)), ("none", (0, 1))))


class ShapesTest(unittest.TestCase):
    def test_any_things(self):
        for table in (TABLE, ((0,),), ((1,),), ((0, 0), (0, 0))):
            for thing in ODD_THINGS + ["back", "none", ("back",), ("none",), {"back": table}, table, plain(2)]:
                self.assertEqual(("shape", 0), refusal_of(lets_back, table, thing))

    def test_near_misses_of_a_back(self):
        word, numbers, under = BACK
        misses = [
            list(BACK), (word, list(numbers), under), (word, numbers, [under]), (word, numbers, (under,)),
            (word, numbers), (word, numbers, under, under), (word, under, numbers), (numbers, under),
            ("Back", numbers, under), ("back ", numbers, under), ("answer", numbers, under),
            ("none", numbers, under), (None, numbers, under), (word, numbers, 0), (word, numbers, True),
            (word, numbers, False), (word, numbers, None), (word, numbers, "-2"), (word, None, under),
            (word, "4 -2; -3 1", under), (word, (), under), (word, ((), ()), under), (word, numbers[:1], under),
            (word, ((4,),), under), (word, numbers + ((0, 0),), under), (word, ((4, -2, 0), (-3, 1, 0)), under),
            (word, ((4,), (-3,)), under), (word, ((4, -2), (-3,)), under), (word, ((4, -2), (-3, 1, 0)), under),
            (word, ((4, -2, 0), (-3, 1, 0), (0, 0, 0)), under), (word, (4, -2, -3, 1), under),
            (word, {0: numbers[0], 1: numbers[1]}, under), (("back",), numbers, under), ("back", (0, 1), 1),
        ]
        for thing in misses:
            self.assertEqual(("shape", 0), refusal_of(lets_back, TABLE, thing))
        for i in range(2):
            self.assertEqual(("shape", 0), refusal_of(lets_back, TABLE, put_deep(BACK, (1, i), list(numbers[i]))))
            for j in range(2):
                for part in (True, False, None, "4", [4], (4,)):
                    self.assertEqual(("shape", 0), refusal_of(lets_back, TABLE, put_deep(BACK, (1, i, j), part)))

    def test_true_is_no_1(self):
        table = ((1, 0), (0, 1))
        self.assertIs(True, lets_back(table, ("back", table, 1)))
        self.assertEqual(("shape", 0), refusal_of(lets_back, table, ("back", table, True)))
        self.assertEqual(("shape", 0), refusal_of(lets_back, table, ("back", ((True, 0), (0, 1)), 1)))
        self.assertEqual(("shape", 0), refusal_of(lets_back, table, ("back", ((1, False), (0, 1)), 1)))
        self.assertEqual(("shape", 0), refusal_of(lets_back, ((0,),), ("none", (True,))))
        self.assertEqual(("shape", 0), refusal_of(lets_back, ((0,),), ("none", (False,))))

    def test_near_misses_of_factors(self):
        table = ((1, 2), (2, 4))
        misses = [
            ["none", (2, -1)], ("none", [2, -1]), ("none",), ("none", (2, -1), 1), ("none", (2, -1), (2, -1)),
            ("None", (2, -1)), ("back", (2, -1)), (None, (2, -1)), ((2, -1), "none"), ("none", (2,)),
            ("none", (2, -1, 0)), ("none", ()), ("none", 2), ("none", ((2, -1),)), ("none", "21"), ("none", None),
            ("none", {0: 2}), ("none", (0, 0, 0)), ("none", (2, True)), ("none", (2, None)), ("none", (2, "-1")),
        ]
        for thing in misses:
            self.assertEqual(("shape", 0), refusal_of(lets_back, table, thing))


class AmissTest(unittest.TestCase):
    def test_the_first_row_there(self):
        # In a plain table's back the product's row i is the back's own row i.
        many = 5
        for first in range(many):
            for other in range(first, many):
                for j in range(many):
                    numbers = put_deep(plain(many), (first, j), 9)
                    numbers = put_deep(numbers, (other, (j + 1) % many), -GREAT)
                    thing = ("back", numbers, 1)
                    self.assertEqual(("there", first), refusal_of(lets_back, plain(many), thing))

    def test_each_number_counts(self):
        table = numbers_table(104, 4, 4, BIG)
        paper = back_of(table, 1)
        for i in range(4):
            for j in range(4):
                for more in (1, -1, GREAT):
                    amiss = put_deep(paper, (1, i, j), paper[1][i][j] + more)
                    first = [row for row in range(4) if table[row][i] != 0][0]
                    self.assertEqual(("there", first), refusal_of(lets_back, table, amiss))

    def test_unders_and_signs(self):
        for under in (-1, 1, 2, -3, -GREAT):
            self.assertEqual(("there", 0), refusal_of(lets_back, TABLE, put(BACK, 2, under)))
        turned_back = ("back", turn(BACK[1]), -2)
        self.assertEqual(("there", 0), refusal_of(lets_back, TABLE, turned_back))
        noughts = ("back", ((0, 0), (0, 0)), 1)
        self.assertEqual(("there", 0), refusal_of(lets_back, TABLE, noughts))
        self.assertEqual(("there", 1), refusal_of(lets_back, ((1, 0), (0, 0)), ("back", ((1, 0), (0, 0)), 1)))

    def test_rows_that_are_so_ahead_of_one_that_is_not(self):
        for first in range(3):
            table = put_deep(plain(3), (first, first), 2)
            self.assertEqual(("there", first), refusal_of(lets_back, table, ("back", plain(3), 1)))

    def test_the_table_times_numbers_and_not_the_other_way_round(self):
        # Numbers with row 0 amiss: the table exchanges rows, so the product is amiss at row 1.
        table = ((0, 1), (1, 0))
        self.assertIs(True, lets_back(table, ("back", table, 1)))
        self.assertEqual(("there", 1), refusal_of(lets_back, table, ("back", ((5, 1), (1, 0)), 1)))
        self.assertEqual(("there", 0), refusal_of(lets_back, table, ("back", ((0, 1), (1, 5)), 1)))

    def test_noughts_ahead_of_columns(self):
        for table in SQUARES:
            thing = ("none", (0,) * len(table))
            self.assertEqual(("nought", 0), refusal_of(lets_back, table, thing))

    def test_the_first_column(self):
        factors = (2, 3, 1)
        for first in range(3):
            for other in range(first, 3):
                rows = ((1, 2, 3), (4, -5, 6))
                last = tuple(-number for number in lead_through(factors[:2], rows))
                self.assertIs(True, lets_back(rows + (last,), ("none", factors)))
                last = put(last, first, last[first] + 1)
                last = put(last, other, last[other] + BIG)
                self.assertEqual(("column", first), refusal_of(lets_back, rows + (last,), ("none", factors)))
        self.assertEqual(("column", 0), refusal_of(lets_back, TABLE, ("none", (1, 0))))
        self.assertEqual(("column", 1), refusal_of(lets_back, TABLE, ("none", (3, -1))))

    def test_never_both_whoever_wrote_them(self):
        tables = [((1, 2), (2, 4)), ((1, 1), (1, 2)), ((0, 1), (1, 0)), ((0, 0), (0, 1)), ((0, 0), (0, 0))]
        for table in tables:
            let_by = {"back": 0, "none": 0}
            numbers = range(-2, 3)
            things = [("none", (a, b)) for a in numbers for b in numbers]
            things += [("back", ((a, b), (c, d)), under) for a in numbers for b in numbers for c in numbers
                       for d in numbers for under in (-2, -1, 1, 2)]
            for thing in things:
                try:
                    let_by[thing[0]] += lets_back(table, thing)
                except ValueError:
                    pass
            good = "back" if determinant(table) != 0 else "none"
            self.assertEqual([good], [word for word in let_by if let_by[word] > 0])


if __name__ == "__main__":
    unittest.main()

import unittest

from oracle import BIG, adjoined, determinant, just_told, numbers_table, put, told_alike
from cornersteps.backchecker import lets_back
from cornersteps.backs import back
from cornersteps.changes import back_changed, corner_changed

# Tables of one to five rows with corners other than 0, some with noughts where steps would begin.
TABLES = [
    ((7,),), ((-BIG,),), ((0, 1), (1, 0)), ((1, 2), (3, 4)), ((0, 0, 1), (0, 2, 0), (-3, 0, 0)),
    numbers_table(121, 2, 2, 10 ** 12 - 1), numbers_table(122, 3, 3, 9), numbers_table(123, 4, 4, 9),
    numbers_table(124, 4, 4, 10 ** 12 - 1), numbers_table(125, 5, 5, 9), numbers_table(126, 5, 5, 10 ** 12 - 1),
]


def rows_for(table, place):
    """Rows to put at the place: the same, ones that make the corner 0, and others."""
    many = len(table)
    others = [row for i, row in enumerate(table) if i != place]
    summed = tuple(sum(3 * row[j] for row in others) for j in range(many))
    return [table[place], (0,) * many, summed, tuple(-number for number in table[place])] + others + [
        (1,) * many, numbers_table(place + 127, 1, many, 9)[0], numbers_table(place + 128, 1, many, 10 ** 12 - 1)[0]]


class CornerChangedTest(unittest.TestCase):
    def test_by_hand(self):
        told = ("back", ((4, -2), (-3, 1)), -2)
        self.assertEqual(-2, corner_changed(told, 0, (1, 2)))
        self.assertEqual(2, corner_changed(told, 0, (5, 6)))
        self.assertEqual(-4, corner_changed(told, 1, (5, 6)))
        self.assertEqual(0, corner_changed(told, 1, (2, 4)))
        self.assertEqual(-9, corner_changed(("back", ((1,),), 7), 0, (-9,)))

    def test_each_row_of_each_table(self):
        for table in TABLES:
            self.assertNotEqual(0, determinant(table))
            told = back(table)
            for place in range(len(table)):
                for row in rows_for(table, place):
                    corner = told_alike(corner_changed, told, place, row)
                    self.assertEqual(determinant(put(table, place, row)), corner)
                    self.assertIs(int, type(corner))
                self.assertEqual(told[2], corner_changed(told, place, table[place]))

    def test_by_the_back_and_the_row_alone(self):
        # The row that goes isn't asked for: tables that differ there alone have the same corner behind it.
        one, other = ((1, 2), (3, 4)), ((9, -5), (3, 4))
        for row in [(1, 1), (0, 0), (BIG, -BIG)]:
            self.assertEqual(corner_changed(back(one), 0, row), corner_changed(back(other), 0, row))


class BackChangedTest(unittest.TestCase):
    def test_by_hand(self):
        table, told = ((1, 2), (3, 4)), ("back", ((4, -2), (-3, 1)), -2)
        self.assertEqual(told, back_changed(table, told, 0, (1, 2)))
        self.assertEqual(("back", ((4, -6), (-3, 5)), 2), back_changed(table, told, 0, (5, 6)))
        self.assertEqual(("back", ((6, -2), (-5, 1)), -4), back_changed(table, told, 1, (5, 6)))
        self.assertEqual("none", back_changed(table, told, 1, (2, 4))[0])
        self.assertEqual(("back", ((1,),), -9), back_changed(((7,),), ("back", ((1,),), 7), 0, (-9,)))

    def test_each_row_of_each_table(self):
        words = {"back": 0, "none": 0}
        for table in TABLES:
            told = back(table)
            for place in range(len(table)):
                for row in rows_for(table, place):
                    changed = put(table, place, row)
                    behind = told_alike(back_changed, table, told, place, row)
                    self.assertTrue(just_told(behind))
                    self.assertIs(True, lets_back(changed, behind))
                    if determinant(changed) == 0:
                        self.assertEqual(("none", 2), (behind[0], len(behind)))
                    else:
                        self.assertEqual(("back", adjoined(changed), determinant(changed)), behind)
                        self.assertEqual(back(changed), behind)
                    words[behind[0]] += 1
                self.assertEqual(told, back_changed(table, told, place, table[place]))
        self.assertTrue(words["back"] > 100 and words["none"] > 50)

    def test_several_changes_each_by_what_was_told_ahead(self):
        for many in range(1, 6):
            table = numbers_table(129, many, many, 99)
            told = back(table)
            changes = 0
            for turn in range(30):
                place = (turn * 7 + turn // 5) % many
                row = numbers_table(turn + 130, 1, many, 10 ** (turn % 4 + 1))[0]
                if corner_changed(told, place, row) != 0:
                    told = back_changed(table, told, place, row)
                    table = put(table, place, row)
                    self.assertEqual(("back", adjoined(table), determinant(table)), told)
                    changes += 1
                else:
                    barred = back_changed(table, told, place, row)
                    self.assertEqual("none", barred[0])
                    self.assertIs(True, lets_back(put(table, place, row), barred))
            self.assertTrue(changes > 20)

    def test_a_change_and_the_change_back(self):
        for table in TABLES:
            told = back(table)
            for place in range(len(table)):
                row = tuple(3 * number for number in table[place])
                changed = put(table, place, row)
                behind = back_changed(table, told, place, row)
                self.assertEqual(3 * told[2], behind[2])
                self.assertEqual(told, back_changed(changed, behind, place, table[place]))

    def test_six_rows_and_great_numbers(self):
        table = numbers_table(140, 6, 6, 10 ** 400 - 1)
        told = back(table)
        for place in range(6):
            row = numbers_table(place + 141, 1, 6, 10 ** 400 - 1)[0]
            self.assertEqual(determinant(put(table, place, row)), corner_changed(told, place, row))
            self.assertEqual(back(put(table, place, row)), back_changed(table, told, place, row))


if __name__ == "__main__":
    unittest.main()

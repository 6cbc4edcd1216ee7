import copy
import random
import unittest

from oracle import BIG, MANY_TABLES, RULES, just_tuples, numbers_table, steps_told, summed_table
from cornersteps.errors import CornerError, NoPlace, TooMany
from cornersteps.keepers import Keeper
from cornersteps.rules import steps


class Model:
    """A keeper by the words of point 40: each row has a label of its own, and what stood ahead is kept whole."""

    def __init__(self, table, rule):
        self.rows = list(table)
        self.labels = list(range(len(table)))
        self.fresh = len(table)
        self.rule = rule
        self.ahead = []

    def pairs(self):
        """The pairs of the last of the steps, rows by their labels."""
        table = tuple(self.rows)
        return [(self.labels[row], column) for row, column in steps(table, self.rule, len(table[0]))[-1][0]]

    def kept(self, pairs, label):
        """How many first pairs are alike ahead and now, none of the row with the label."""
        many = 0
        for one, other in zip(pairs, self.pairs()):
            if one != other or label in (one[0], other[0]):
                break
            many += 1
        return many

    def deed(self, do):
        """Does the deed; do changes rows and labels and tells the label of its row."""
        pairs = self.pairs()
        self.ahead.append((list(self.rows), list(self.labels)))
        label = do()
        self.ahead[-1] += (label,)
        return self.kept(pairs, label)

    def change(self, place, row):
        def do():
            self.rows[place] = row
            return self.labels[place]
        return self.deed(do)

    def put(self, place, row):
        def do():
            self.rows.insert(place, row)
            self.labels.insert(place, self.fresh)
            self.fresh += 1
            return self.fresh - 1
        return self.deed(do)

    def take(self, place):
        def do():
            self.rows.pop(place)
            return self.labels.pop(place)
        return self.deed(do)

    def undo(self):
        pairs = self.pairs()
        self.rows, self.labels, label = self.ahead.pop()
        return self.kept(pairs, label)


class KeeperTest(unittest.TestCase):
    def same(self, keeper, model):
        """The keeper tells the model's table, and its stands from anew."""
        table = tuple(model.rows)
        told = keeper.table()
        self.assertEqual(table, told)
        self.assertTrue(just_tuples(told))
        stands = keeper.stands()
        self.assertEqual(steps(table, model.rule, len(table[0])), stands)
        self.assertTrue(just_tuples(stands))
        self.assertEqual((told, stands), (keeper.table(), keeper.stands()))

    def both(self, keeper, model, deed, *things):
        """Does the deed with both; tells what is KEPT."""
        kept = copy.deepcopy(things)
        told = getattr(keeper, deed)(*things)
        self.assertIs(int, type(told))
        self.assertEqual(getattr(model, deed)(*things), told, (deed, things, model.rows))
        self.assertEqual(kept, things)
        self.same(keeper, model)
        return told

    def refused(self, keeper, wanted, attribute, deed, *things):
        """The deed is refused with the class alone and the thing kept; nothing is changed."""
        ahead = (keeper.table(), keeper.stands())
        for _ in range(2):
            with self.assertRaises(wanted) as caught:
                getattr(keeper, deed)(*things)
            self.assertIs(wanted, type(caught.exception))
            self.assertIsInstance(caught.exception, CornerError)
            name, value = attribute
            self.assertEqual(value, getattr(caught.exception, name))
        self.assertEqual(ahead, (keeper.table(), keeper.stands()))

    def test_made_of_a_table_and_a_rule(self):
        for table in MANY_TABLES + [numbers_table(261, 8, 6, 9), summed_table(262, 8, 6, 10 ** 11)]:
            for rule in RULES:
                keeper = Keeper(table, rule)
                self.same(keeper, Model(table, rule))
                self.assertEqual(steps_told(table, rule, len(table[0])), keeper.stands())

    def test_by_hand(self):
        keeper = Keeper(((1, 2), (3, 4)), "first")
        self.assertEqual(((0, 0), (1, 1)), keeper.stands()[-1][0])
        self.assertEqual(1, keeper.change(1, (5, 6)))
        self.assertEqual(((1, 2), (5, 6)), keeper.table())
        self.assertEqual(0, keeper.change(0, (1, 2)))
        self.assertEqual(2, keeper.put(2, (7, 8)))
        self.assertEqual(((1, 2), (5, 6), (7, 8)), keeper.table())
        self.assertEqual(2, keeper.take(2))
        self.assertEqual(0, keeper.put(0, (9, 9)))
        self.assertEqual(((9, 9), (1, 2), (5, 6)), keeper.table())
        self.assertEqual([0, 2, 2, 0, 1], [keeper.undo() for _ in range(5)])
        self.assertEqual(((1, 2), (3, 4)), keeper.table())

    def test_rows_put_in_and_taken_out_move_the_others(self):
        # A row of noughts put in ahead of all is in no pair; all rows behind it have other numbers, and are kept.
        keeper = Keeper(((1, 2), (3, 4)), "first")
        self.assertEqual(2, keeper.put(0, (0, 0)))
        self.assertEqual(((1, 0), (2, 1)), keeper.stands()[-1][0])
        self.assertEqual(2, keeper.put(2, (0, 0)))
        self.assertEqual(((1, 0), (3, 1)), keeper.stands()[-1][0])
        self.assertEqual(2, keeper.take(0))
        self.assertEqual(((0, 0), (2, 1)), keeper.stands()[-1][0])
        self.assertEqual(2, keeper.undo())
        self.assertEqual(2, keeper.undo())
        self.assertEqual(2, keeper.undo())

    def test_a_row_taken_out_whose_number_another_one_gets(self):
        # Row 1 then stands at place 0 and is picked there: the pairs look alike, the rows are not.
        keeper = Keeper(((1, 2), (1, 2), (0, 5)), "first")
        self.assertEqual(((0, 0), (2, 1)), keeper.stands()[-1][0])
        self.assertEqual(0, keeper.take(0))
        self.assertEqual(((0, 0), (1, 1)), keeper.stands()[-1][0])
        self.assertEqual(0, keeper.undo())

    def test_each_deed_at_each_place_and_undone(self):
        tables = [table for table in MANY_TABLES if len(table[0]) <= 6] + [numbers_table(263, 7, 4, 3)]
        for seed, table in enumerate(tables):
            wide = len(table[0])
            rows = [(0,) * wide, numbers_table(seed, 1, wide, 9)[0], (BIG,) * wide, table[0], table[-1]]
            for rule in RULES:
                keeper, model = Keeper(table, rule), Model(table, rule)
                for place in range(len(table)):
                    for row in rows + [table[place]]:
                        self.both(keeper, model, "change", place, row)
                        self.both(keeper, model, "undo")
                    if len(table) > 1:
                        self.both(keeper, model, "take", place)
                        self.both(keeper, model, "undo")
                for place in range(len(table) + 1):
                    for row in rows:
                        self.both(keeper, model, "put", place, row)
                        self.both(keeper, model, "undo")
                self.assertEqual(table, keeper.table())
                self.refused(keeper, NoPlace, ("place", -1), "undo")

    def test_a_row_in_no_pair_is_changed(self):
        table = ((1, 2, 3), (2, 4, 6), (0, 1, 1))
        for rule, pairs in [("first", ((0, 0), (2, 1))), ("most", ((1, 0), (2, 1)))]:
            keeper, model = Keeper(table, rule), Model(table, rule)
            self.assertEqual(pairs, keeper.stands()[-1][0])
            left = 1 if rule == "first" else 0
            self.assertEqual(2, self.both(keeper, model, "change", left, table[left]))
            self.assertEqual(2, self.both(keeper, model, "change", left, (0, 0, 0)))
        # Now it comes into a pair behind those that stay, and then between them.
        keeper, model = Keeper(table, "first"), Model(table, "first")
        self.assertEqual(2, self.both(keeper, model, "change", 1, (2, 4, 7)))
        self.assertEqual(3, len(keeper.stands()[-1][0]))
        self.assertEqual(1, self.both(keeper, model, "change", 1, (0, 5, 7)))

    def test_deeds_one_behind_the_other(self):
        for seed in range(60):
            chance = random.Random(seed)
            rule = RULES[seed % 3]
            wide = chance.randint(1, 6)
            table = numbers_table(seed, chance.randint(1, 8), wide, chance.choice((1, 2, 9, BIG)))
            keeper, model = Keeper(table, rule), Model(table, rule)
            for _ in range(30):
                many = len(model.rows)
                row = tuple(chance.choice((0, 0, 1, -1, 2, chance.randint(-9, 9))) for _ in range(wide))
                deeds = [("change", chance.randrange(many), row), ("change", chance.randrange(many), model.rows[0])]
                deeds += [("put", chance.randint(0, many), row)] * (many < 8)
                deeds += [("take", chance.randrange(many))] * (many > 1)
                deeds += [("undo",)] * (2 if model.ahead else 0)
                self.both(keeper, model, *chance.choice(deeds))
            while model.ahead:
                self.both(keeper, model, "undo")
            self.assertEqual(table, keeper.table())
            self.refused(keeper, NoPlace, ("place", -1), "undo")

    def test_an_undoing_does_not_stand(self):
        keeper, model = Keeper(((1, 2), (3, 4)), "least"), Model(((1, 2), (3, 4)), "least")
        self.both(keeper, model, "change", 0, (5, 6))
        self.both(keeper, model, "put", 1, (7, 8))
        self.both(keeper, model, "undo")
        self.both(keeper, model, "take", 1)
        self.both(keeper, model, "undo")
        self.both(keeper, model, "undo")
        self.assertEqual(((1, 2), (3, 4)), keeper.table())
        self.refused(keeper, NoPlace, ("place", -1), "undo")
        self.both(keeper, model, "change", 1, (0, 0))
        self.both(keeper, model, "undo")
        self.refused(keeper, NoPlace, ("place", -1), "undo")

    def test_a_row_taken_out_comes_back_where_it_stood(self):
        table = numbers_table(264, 8, 6, 9)
        for place in range(8):
            keeper, model = Keeper(table, "most"), Model(table, "most")
            self.both(keeper, model, "take", place)
            self.both(keeper, model, "undo")
            self.assertEqual(table, keeper.table())

    def test_no_place(self):
        for many in (1, 2, 5, 8):
            keeper = Keeper(numbers_table(265, many, 3, 9), "first")
            for place in (-1, -2, -many, -many - 1, many, many + 1, 10 ** 12, -(10 ** 12), 10 ** 399):
                self.refused(keeper, NoPlace, ("place", place), "change", place, (1, 2, 3))
                self.refused(keeper, NoPlace, ("place", place), "take", place)
                if many < 8 and place != many:
                    self.refused(keeper, NoPlace, ("place", place), "put", place, (1, 2, 3))
            self.refused(keeper, NoPlace, ("place", -1), "undo")

    def test_the_only_row(self):
        keeper = Keeper(((1, 2),), "first")
        self.refused(keeper, NoPlace, ("place", 0), "take", 0)
        self.refused(keeper, NoPlace, ("place", 1), "take", 1)
        keeper.put(0, (3, 4))
        keeper.take(1)
        self.assertEqual(((3, 4),), keeper.table())
        self.refused(keeper, NoPlace, ("place", 0), "take", 0)
        keeper.undo()
        self.assertEqual(((3, 4), (1, 2)), keeper.table())

    def test_a_ninth_row(self):
        keeper = Keeper(numbers_table(266, 7, 2, 9), "first")
        keeper.put(7, (1, 2))
        for place in (0, 4, 8, 9, -1, 10 ** 399):
            self.refused(keeper, TooMany, ("word", "rows"), "put", place, (3, 4))
        keeper.take(3)
        keeper.put(0, (5, 6))
        self.assertEqual(8, len(keeper.table()))
        for many in (7, 8, 7):
            keeper.undo()
            self.assertEqual(many, len(keeper.table()))

    def test_what_is_refused_is_no_deed(self):
        keeper = Keeper(((1, 2), (3, 4)), "first")
        keeper.change(0, (5, 6))
        for deed, things in [("change", (2, (0, 0))), ("put", (3, (0, 0))), ("take", (-1,))]:
            self.refused(keeper, NoPlace, ("place", things[0]), deed, *things)
        keeper.undo()
        self.assertEqual(((1, 2), (3, 4)), keeper.table())
        self.refused(keeper, NoPlace, ("place", -1), "undo")

    def test_two_keepers_know_nothing_of_each_other(self):
        table = ((1, 2), (3, 4))
        one, other = Keeper(table, "first"), Keeper(table, "most")
        one.change(0, (0, 1))
        self.refused(other, NoPlace, ("place", -1), "undo")
        other.put(2, (9, 9))
        self.assertEqual(((0, 1), (3, 4)), one.table())
        self.assertEqual(((1, 2), (3, 4), (9, 9)), other.table())
        self.assertEqual(steps(other.table(), "most", 2), other.stands())
        one.undo()
        self.assertEqual(table, one.table())
        self.assertEqual(((1, 2), (3, 4), (9, 9)), other.table())
        self.assertEqual(((1, 2), (3, 4)), table)

    def test_what_was_told_stays_as_it_was(self):
        keeper = Keeper(((1, 2), (3, 4)), "first")
        table, stands = keeper.table(), keeper.stands()
        keeper.change(0, (7, 7))
        keeper.take(1)
        self.assertEqual(((1, 2), (3, 4)), table)
        self.assertEqual(steps(table, "first", 2), stands)

    def test_its_methods_stand_in_the_class_itself(self):
        for name in ("table", "stands", "change", "put", "take", "undo"):
            self.assertIn(name, vars(Keeper))


if __name__ == "__main__":
    unittest.main()

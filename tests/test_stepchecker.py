import copy
import unittest

from oracle import BIG, MANY_TABLES, ODD_THINGS, RULES, numbers_table, put, put_deep, random_paper, stand_told
from cornersteps.errors import CornerError, NoPaper, NoStep
from cornersteps.rules import steps
from cornersteps.stepchecker import lets_steps

TABLE = ((1, 2, 3), (4, 5, 6), (7, 8, 10))
PAIRS = ((1, 2), (0, 0), (2, 1))
PAPER = tuple(stand_told(TABLE, PAIRS[:many]) for many in range(4))


class StepCheckerTest(unittest.TestCase):
    def refused(self, table, thing, word, place):
        kept = repr(thing)
        for _ in range(2):
            with self.assertRaises(NoPaper) as caught:
                lets_steps(table, thing)
            error = caught.exception
            self.assertIs(NoPaper, type(error))
            self.assertIsInstance(error, CornerError)
            self.assertNotIsInstance(error, NoStep)
            self.assertEqual((word, place), (error.word, error.place), thing)
            self.assertIs(int, type(error.place))
        self.assertEqual(kept, repr(thing))

    def test_papers_by_each_rule_are_let_by(self):
        for table in MANY_TABLES:
            for rule in RULES:
                for wide in range(len(table[0]) + 1):
                    paper = steps(table, rule, wide)
                    for many in range(1, len(paper) + 1):
                        self.assertIs(True, lets_steps(table, paper[:many]))

    def test_papers_at_any_pairs_are_let_by(self):
        for seed, table in enumerate(MANY_TABLES):
            for turn in range(4):
                paper = random_paper(table, seed * 10 + turn, 5)
                kept = copy.deepcopy(paper)
                for many in range(1, len(paper) + 1):
                    self.assertIs(True, lets_steps(table, paper[:many]))
                self.assertIs(True, lets_steps(table, paper))
                self.assertEqual(kept, paper)

    def test_wide_papers_are_let_by(self):
        table = numbers_table(41, 6, 12, 10 ** 20)
        self.assertIs(True, lets_steps(table, steps(table, "most", 12)))

    def test_what_is_no_tuple_or_empty(self):
        for thing in ODD_THINGS:
            if not isinstance(thing, tuple) or thing == ():
                self.refused(TABLE, thing, "shape", -1)
        self.refused(TABLE, list(PAPER), "shape", -1)
        self.refused(TABLE, {0: PAPER[0]}, "shape", -1)

    def test_any_things_in_a_tuple_are_amiss_at_their_place(self):
        for thing in ODD_THINGS:
            if isinstance(thing, tuple) and thing != ():
                self.refused(TABLE, thing, "shape", 0)
            for place in range(len(PAPER)):
                self.refused(TABLE, put(PAPER, place, thing), "shape", place)
                self.refused(TABLE, PAPER[:place] + (thing,), "shape", place)
                for part in range(3):
                    fits = [thing == () and part == 0, type(thing) is int and part == 1]
                    if not any(fits):
                        self.refused(TABLE, put_deep(PAPER, (place, part), thing), "shape", place)

    def test_a_stand_in_the_place_of_a_paper(self):
        self.refused(TABLE, PAPER[0], "shape", 0)
        self.refused(TABLE, TABLE, "shape", 0)

    def test_near_misses_of_the_form(self):
        for place, (picked, under, numbers) in enumerate(PAPER):
            misses = [
                [picked, under, numbers], (list(picked), under, numbers), (picked, under, list(numbers)),
                (picked, under), (picked, under, numbers, 0), (picked, str(under), numbers),
                (picked, under, numbers[:2]), (picked, under, numbers + (numbers[0],)),
                (picked, under, put(numbers, 1, list(numbers[1]))), (picked, under, put(numbers, 1, numbers[1][:2])),
                (picked + ((3, 0),), under, numbers), (picked + ((0, 3),), under, numbers),
                (picked + ((-1, 0),), under, numbers), (((0, 0), (0, 0)), under, numbers),
                (((0, 0), (0, 1)), under, numbers), (((0, 0), (1, 0)), under, numbers),
            ]
            for thing in misses:
                self.refused(TABLE, put(PAPER, place, thing), "shape", place)

    def test_true_is_no_1(self):
        table = ((1, 0), (0, 1))
        paper = steps(table, "first", 2)
        self.assertEqual([1, 1, 1], [stand[1] for stand in paper])
        self.assertEqual(((0, 0), (1, 1)), paper[2][0])
        for place in range(3):
            self.refused(table, put_deep(paper, (place, 1), True), "shape", place)
            for i in range(2):
                for j in range(2):
                    part = paper[place][2][i][j] == 1
                    self.refused(table, put_deep(paper, (place, 2, i, j), part), "shape", place)
        self.refused(table, put_deep(paper, (1, 0, 0, 0), False), "shape", 1)
        self.refused(table, put_deep(paper, (2, 0, 1, 0), True), "shape", 2)
        self.refused(table, put_deep(paper, (2, 0, 1, 1), True), "shape", 2)
        self.refused(table, put_deep(paper, (2, 0, 0, 1), False), "shape", 2)

    def test_pairs_at_the_first_stand(self):
        for stand in PAPER[1:]:
            self.refused(TABLE, (stand,), "pick", 0)
        self.refused(TABLE, PAPER[1:], "pick", 0)
        self.refused(TABLE, ((((0, 0),), 1, TABLE),), "pick", 0)

    def test_pairs_at_a_later_stand(self):
        for place in range(1, len(PAPER)):
            picked, under, numbers = PAPER[place]
            ahead = PAPER[place - 1]
            self.refused(TABLE, PAPER[:place] + (ahead,), "pick", place)
            self.refused(TABLE, PAPER[:place] + (put(PAPER[place], 0, ()),), "pick", place)
            self.refused(TABLE, PAPER[:place] + (put(PAPER[place], 0, ahead[0]),), "pick", place)
            if place + 1 < len(PAPER):
                self.refused(TABLE, PAPER[:place] + PAPER[place + 1:], "pick", place)
                later = put(PAPER[place], 0, PAPER[place + 1][0])
                self.refused(TABLE, PAPER[:place] + (later,), "pick", place)
            if place > 1:
                turned_pairs = put(PAPER[place], 0, picked[::-1])
                self.refused(TABLE, PAPER[:place] + (turned_pairs,), "pick", place)
                self.refused(TABLE, PAPER[:place] + (put(PAPER[place], 0, picked[1:]),), "pick", place)
        # The same corners by pairs in another order are no paper: its beginning isn't what stands ahead.
        other = stand_told(TABLE, ((0, 0), (1, 2)))
        self.refused(TABLE, (PAPER[0], PAPER[1], other), "pick", 2)

    def test_a_pair_at_which_the_stand_ahead_has_0(self):
        table = ((1, 2, 0), (2, 4, 5))
        first = ((), 1, table)
        self.refused(table, (first, (((0, 2),), 0, table)), "pick", 1)
        self.refused(table, (first, (((0, 2),), 0, ((0, 0, 0), (0, 0, 0)))), "pick", 1)
        behind = stand_told(table, ((0, 0),))
        self.assertEqual(0, behind[2][1][1])
        last = (((0, 0), (1, 1)), 0, ((0, 0, 0), (0, 0, 0)))
        self.refused(table, (first, behind, last), "pick", 2)
        last = (((0, 0), (1, 1)), 1, behind[2])
        self.refused(table, (first, behind, last), "pick", 2)

    def test_unders(self):
        for place in range(len(PAPER)):
            under = PAPER[place][1]
            for other in (under + 1, under - 1, -under, 0, under + 10 ** 399, under * 2):
                self.refused(TABLE, put_deep(PAPER, (place, 1), other), "under", place)

    def test_each_number_counts(self):
        for table in (TABLE, ((0, 2, -1, BIG), (5, -BIG, 3, 1)), ((2, 1), (0, 0), (7, -3))):
            for paper in (random_paper(table, 2, 3), steps(table, "most", len(table[0]))):
                for place in range(len(paper)):
                    for i in range(len(table)):
                        for j in range(len(table[0])):
                            number = paper[place][2][i][j]
                            for other in (number + 1, number - 1, number + 10 ** 399):
                                amiss = put_deep(paper, (place, 2, i, j), other)
                                self.refused(table, amiss, "numbers", place)

    def test_numbers_of_another_sign_or_another_table(self):
        for place, stand in enumerate(PAPER):
            turned_numbers = tuple(tuple(-number for number in row) for row in stand[2])
            self.refused(TABLE, put_deep(PAPER, (place, 2), turned_numbers), "numbers", place)
        other = put_deep(TABLE, (1, 1), 50)
        self.refused(other, PAPER, "numbers", 0)
        self.refused(TABLE, steps(other, "first", 3), "numbers", 0)

    def test_the_picked_row_as_it_was_and_not_times_the_under(self):
        for place in range(2, len(PAPER)):
            row = PAPER[place][0][-1][0]
            under = PAPER[place - 1][1]
            self.assertNotIn(under, (0, 1))
            amiss = tuple(under * number for number in PAPER[place - 1][2][row])
            self.refused(TABLE, put_deep(PAPER, (place, 2, row), amiss), "numbers", place)

    def test_numbers_that_are_not_divided_by_the_under_ahead(self):
        place = 2
        under = PAPER[place - 1][1]
        row = PAPER[place][0][-1][0]
        undivided = tuple(
            line if i == row else tuple(under * number for number in line) for i, line in enumerate(PAPER[place][2])
        )
        self.refused(TABLE, put_deep(PAPER[:3], (place, 2), undivided), "numbers", place)

    def test_two_things_amiss_at_one_place(self):
        numbers_amiss = tuple(tuple(number + 1 for number in row) for row in TABLE)
        for place in range(len(PAPER)):
            picked = PAPER[place][0]
            picks_amiss = ((0, 0), (1, 1), (2, 2)) if place == 0 else ()
            kept, amiss = PAPER[:place], PAPER[place + 1:]
            self.refused(TABLE, kept + (([], 99, numbers_amiss),) + amiss, "shape", place)
            self.refused(TABLE, kept + ((picks_amiss, True, numbers_amiss),) + amiss, "shape", place)
            self.refused(TABLE, kept + ((picks_amiss, 99, [numbers_amiss]),) + amiss, "shape", place)
            self.refused(TABLE, kept + ((picks_amiss, 99, numbers_amiss),) + amiss, "pick", place)
            self.refused(TABLE, kept + ((picks_amiss, 99, PAPER[place][2]),) + amiss, "pick", place)
            self.refused(TABLE, kept + ((picks_amiss, PAPER[place][1], numbers_amiss),) + amiss, "pick", place)
            self.refused(TABLE, kept + ((picked, 99, numbers_amiss),) + amiss, "under", place)

    def test_two_things_amiss_at_two_places(self):
        for ahead, behind in [(0, 1), (0, 2), (1, 2), (1, 3), (2, 3)]:
            spoiled = [
                ("numbers", lambda stand: put_deep(stand, (2, 0, 0), stand[2][0][0] + 1)),
                ("under", lambda stand: put(stand, 1, stand[1] + 1)),
                ("pick", lambda stand: put(stand, 0, ((0, 0), (1, 1), (2, 2)) if len(stand[0]) == 0 else ())),
                ("shape", lambda stand: put(stand, 1, None)),
            ]
            for word, spoil in spoiled:
                for _, other in spoiled:
                    paper = put(put(PAPER, behind, other(PAPER[behind])), ahead, spoil(PAPER[ahead]))
                    self.refused(TABLE, paper, word, ahead)
            self.refused(TABLE, put(put_deep(PAPER, (ahead, 1), 77), behind, "x"), "under", ahead)

    def test_more_behind_the_last_step(self):
        self.refused(TABLE, PAPER + (PAPER[-1],), "pick", len(PAPER))
        self.refused(TABLE, PAPER + (PAPER[0],), "pick", len(PAPER))
        self.refused(TABLE, PAPER + (None,), "shape", len(PAPER))
        self.refused(TABLE, (PAPER[0], PAPER[0]), "pick", 1)

    def test_whoever_wrote_it_what_is_let_by_has_the_corners_told(self):
        # All numbers of a small paper are tried; just one table of numbers is let by, the stand told.
        table = ((2, 1), (-1, 1))
        first = ((), 1, table)
        let_by = []
        for under in range(-3, 4):
            for a in range(-3, 4):
                for b in range(-3, 4):
                    stand = (((0, 0),), under, ((2, 1), (a, b)))
                    try:
                        lets_steps(table, (first, stand))
                        let_by.append(stand)
                    except NoPaper:
                        pass
        self.assertEqual([stand_told(table, ((0, 0),))], let_by)


if __name__ == "__main__":
    unittest.main()

"""What the document promises over the whole program (point 5), by parts of it that are asked together."""

import importlib
import inspect
import itertools
import math
import random
import unittest

from oracle import (
    MANY_TABLES, POLY_TABLES, RULES, SQUARES, corner_told, lead_home, numbers_table, put_deep, random_paper, rank_told,
    stand_told, summed_table, whole_corner,
)
from cornersteps.answerchecker import lets_answer
from cornersteps.answers import answered, ways
from cornersteps.backchecker import lets_back
from cornersteps.backs import back
from cornersteps.changes import back_changed, corner_changed
from cornersteps.cornerchecker import lets_corner
from cornersteps.cornerpapers import corner_paper
from cornersteps.corners import corner
from cornersteps.errors import NoPaper
from cornersteps.keepers import Keeper
from cornersteps.misled import misleading, rank_by
from cornersteps.polysteps import falls, poly_steps, stand_at, table_at
from cornersteps.rankchecker import lets_rank
from cornersteps.ranks import rank, rank_paper
from cornersteps.rules import steps
from cornersteps.sizes import square_bound, sum_bound
from cornersteps.stepchecker import lets_steps
from cornersteps.tables import exchanged, plain, times, turned

PRIMES = (2, 3, 5, 7, 11, 13, 9973)

# The interface: how many arguments each name takes.
INTERFACE = {
    "tables": "is_table 1 is_row 2 turned 1 plain 1 times 2 taken 2 beside 2 exchanged 3 led_through 2 led_home 2",
    "orders": "all_orders 1 sign_of 1", "corners": "is_pick 2 corner 2", "sizes": "sum_bound 2 square_bound 2",
    "stands": "is_form 2 first_stand 1 stepped 3", "rules": "is_rule 1 next_pair 3 steps 3",
    "stepchecker": "lets_steps 2", "cornerchecker": "lets_corner 3", "cornerpapers": "corner_paper 2",
    "answerchecker": "lets_answer 3", "answers": "answered 3 ways 2", "backchecker": "lets_back 2", "backs": "back 1",
    "changes": "corner_changed 3 back_changed 4", "rankchecker": "lets_rank 3",
    "ranks": "rank 1 rank_paper 2 relations 2", "primes": "is_prime 1 back_by 2",
    "primesteps": "first_by 2 stepped_by 4 steps_by 3", "primechecker": "lets_steps_by 3 lets_rank_by 4",
    "misled": "rank_by 2 misleading 2", "keepers": "Keeper 2",
    "polys": "is_poly 1 poly_plus 2 poly_minus 2 poly_times 2 poly_over 2 degree 1 value_at 2",
    "polysteps": "is_poly_table 1 first_poly_stand 1 poly_stepped 3 poly_steps 2 falls 1 table_at 2 stand_at 2",
    "polychecker": "lets_poly_steps 2", "texts": "shown_table 1 read_table 1", "desk": "Desk 0",
}


def is_let_by(ask, *things):
    try:
        return ask(*things)
    except NoPaper:
        return False


def all_of(square):
    """The pick of all rows and columns, rising."""
    return (tuple(range(len(square))), tuple(range(len(square))))


class InterfaceTest(unittest.TestCase):
    def test_each_name_is_there_with_its_arguments(self):
        for module, told in INTERFACE.items():
            words = told.split(" ")
            for name, many in zip(words[::2], words[1::2]):
                thing = getattr(importlib.import_module("cornersteps." + module), name)
                self.assertEqual(int(many), len(inspect.signature(thing).parameters), name)


class StandsAndCornersTest(unittest.TestCase):
    def corners_within_bounds(self, table, stand):
        picked, under, numbers = stand
        self.assertEqual(stand_told(table, picked), stand)
        rows, columns = tuple(row for row, _ in picked), tuple(column for _, column in picked)
        self.within(table, (rows, columns), under)
        for i, line in enumerate(numbers):
            for j, number in enumerate(line):
                if i not in rows and j not in columns:
                    self.within(table, (rows + (i,), columns + (j,)), number)
                elif i in rows and j not in columns:
                    at = rows.index(i)
                    self.within(table, (rows, columns[:at] + (j,) + columns[at + 1:]), number)

    def within(self, table, pick, number):
        self.assertIs(int, type(number))
        self.assertLessEqual(abs(number), sum_bound(table, pick))
        self.assertLessEqual(number * number, square_bound(table, pick))

    def test_each_number_of_each_stand_is_its_corner(self):
        for seed, table in enumerate(MANY_TABLES):
            papers = [steps(table, rule, len(table[0])) for rule in RULES] + [random_paper(table, seed, 5)]
            for paper in papers:
                self.assertIs(True, lets_steps(table, paper))
                for stand in paper:
                    self.corners_within_bounds(table, stand)

    def test_whoever_wrote_it(self):
        chance = random.Random(5)
        for table in [((2, 1, 0), (-1, 1, 3), (4, 0, 1)), ((2, 4), (1, 2)), ((0, 1), (1, 0))]:
            for _ in range(400):
                paper = random_paper(table, chance.randrange(1000), 3)
                place = chance.randrange(len(paper))
                places = (place, 2, chance.randrange(len(table)), chance.randrange(len(table[0])))
                spoiled = put_deep(paper, places, chance.randint(-4, 4))
                if is_let_by(lets_steps, table, spoiled):
                    for stand in spoiled:
                        self.assertEqual(stand_told(table, stand[0]), stand)

    def test_a_number_let_by_as_the_corner_is_it(self):
        for seed, square in enumerate(SQUARES):
            wanted = whole_corner(square)
            for paper in [corner_paper(square, rule)[1] for rule in RULES] + [random_paper(square, seed, 5)]:
                for cut in range(1, len(paper) + 1):
                    for number in (wanted, wanted + 1, -wanted, 0, 1):
                        if is_let_by(lets_corner, square, number, paper[:cut]):
                            self.assertEqual(wanted, number)
            for rule in RULES:
                self.assertEqual(wanted, corner_paper(square, rule)[0])

    def test_exchanged_and_turned(self):
        for square in SQUARES:
            many = len(square)
            wanted = corner_paper(square, "most")[0]
            self.assertEqual(wanted, corner_paper(turned(square), "least")[0])
            for i, j in itertools.permutations(range(many), 2):
                self.assertEqual(-wanted, corner_paper(exchanged(square, i, j), "first")[0])
                other = turned(exchanged(turned(square), i, j))
                self.assertEqual(-wanted, corner(other, all_of(other)))

    def test_of_two_square_tables_multiplied(self):
        for one in SQUARES:
            for other in SQUARES:
                if len(one) == len(other):
                    product = corner_paper(one, "first")[0] * corner_paper(other, "first")[0]
                    self.assertEqual(product, corner_paper(times(one, other), "first")[0])

    def test_of_a_wide_table_times_a_tall_one(self):
        for seed, (rows, columns) in enumerate([(1, 1), (1, 4), (2, 2), (2, 3), (2, 5), (3, 5), (4, 5), (5, 5), (3, 2), (4, 1)]):
            one, other = numbers_table(seed, rows, columns, 9), numbers_table(seed + 50, columns, rows, 10 ** 12 - 1)
            all_rows = tuple(range(rows))
            total = sum(corner(one, (all_rows, picked)) * corner(other, (picked, all_rows))
                        for picked in itertools.combinations(range(columns), rows))
            self.assertEqual(total, corner(times(one, other), (all_rows, all_rows)))


class AnswersAndBacksTest(unittest.TestCase):
    def test_an_answer_or_factors_and_never_both(self):
        chance = random.Random(7)
        seen = set()
        for table in MANY_TABLES:
            rights = [tuple(chance.randint(-9, 9) for _ in table) for _ in range(2)]
            for right in rights + [(0,) * len(table), lead_home(table, tuple(range(1, len(table[0]) + 1)))]:
                told = {answered(table, right, rule)[0] for rule in RULES}
                self.assertEqual(1, len(told))
                seen |= told
                things = [answered(table, right, rule) for rule in RULES]
                things += [("none", tuple(chance.randint(-2, 2) for _ in table)) for _ in range(20)]
                things += [("answer", tuple(chance.randint(-2, 2) for _ in table[0]), 1) for _ in range(20)]
                let_by = {thing[0] for thing in things if is_let_by(lets_answer, table, right, thing)}
                self.assertEqual(told, let_by)
        self.assertEqual({"answer", "none"}, seen)

    def test_the_ways_make_up_all_that_answers_differ_by(self):
        for table in MANY_TABLES:
            for rule in RULES:
                told = ways(table, rule)
                picked, under, _ = steps(table, rule, len(table[0]))[-1]
                free = [column for column in range(len(table[0])) if column not in [c for _, c in picked]]
                self.assertEqual(len(free), len(told))
                self.assertEqual(len(table[0]) - rank_told(table), len(told))
                for way in told:
                    self.assertEqual((0,) * len(table), lead_home(table, way))
                # Any other row that leads home to noughts is made of the ways by its numbers at the free columns.
                for other in RULES:
                    for row in ways(table, other):
                        made = tuple(sum(row[f] * way[j] for f, way in zip(free, told)) for j in range(len(row)))
                        self.assertEqual(tuple(under * number for number in row), made)

    def test_a_back_or_factors_and_never_both(self):
        chance = random.Random(9)
        seen = set()
        for square in SQUARES:
            told = back(square)
            self.assertIs(True, lets_back(square, told))
            seen.add(told[0])
            many = len(square)
            things = [("none", tuple(chance.randint(-2, 2) for _ in square)) for _ in range(30)]
            things += [("back", plain(many), 1), ("back", square, 1), ("back", turned(square), whole_corner(square))]
            if told[0] == "back":
                _, numbers, under = told
                wanted = tuple(tuple(under * number for number in row) for row in plain(many))
                self.assertEqual([wanted, wanted], [times(square, numbers), times(numbers, square)])
                things.append(("none", numbers[0]))
            self.assertLessEqual({thing[0] for thing in things if is_let_by(lets_back, square, thing)}, {told[0]})
        self.assertEqual({"back", "none"}, seen)

    def test_a_back_changed_by_a_row_is_the_back_from_anew(self):
        chance = random.Random(11)
        for square in SQUARES:
            told = back(square)
            for _ in range(8):
                if told[0] == "none":
                    break
                place, row = chance.randrange(len(square)), tuple(chance.randint(-3, 3) for _ in square)
                changed = square[:place] + (row,) + square[place + 1:]
                self.assertEqual(whole_corner(changed), corner_changed(told, place, row))
                told, square = back_changed(square, told, place, row), changed
                self.assertIs(True, lets_back(square, told))
                if told[0] == "back":
                    self.assertEqual(back(square), told)


class RanksTest(unittest.TestCase):
    def test_what_is_let_by_as_a_rank_is_the_rank(self):
        for seed, table in enumerate(MANY_TABLES):
            wanted = rank_told(table)
            self.assertEqual([wanted, wanted], [rank(table), rank(turned(table))])
            for paper in [rank_paper(table, rule) for rule in RULES] + [random_paper(table, seed, 5)]:
                for cut in range(1, len(paper) + 1):
                    for many in range(-1, 7):
                        if is_let_by(lets_rank, table, many, paper[:cut]):
                            self.assertEqual(wanted, many)

    def test_a_prime_that_misleads_divides_each_corner(self):
        misled = 0
        tables = MANY_TABLES + [numbers_table(seed, 3, 4, 6) for seed in range(20)] + [
            ((30, 0), (0, 77)), ((6, 10), (15, 30)), times(((2,), (6,), (4,)), ((3, 9),)), summed_table(3, 3, 3, 8),
        ]
        for table in tables:
            many = rank(table)
            for prime in PRIMES:
                self.assertLessEqual(rank_by(table, prime), many)
            told = misleading(table, PRIMES)
            corners = [corner_told(table, rows, columns) for rows in itertools.combinations(range(len(table)), many)
                       for columns in itertools.combinations(range(len(table[0])), many)]
            for number in corners:
                self.assertEqual([0] * len(told), [number % prime for prime in told])
                self.assertEqual(0, number % math.prod(told))
            self.assertEqual({prime for prime in PRIMES if all(number % prime == 0 for number in corners)}, set(told))
            misled += len(told)
        self.assertTrue(misled > 10)


class KeepersTest(unittest.TestCase):
    def test_the_stands_are_those_from_anew(self):
        for seed in range(12):
            chance = random.Random(seed)
            keeper = Keeper(numbers_table(seed, 4, 4, 3), RULES[seed % 3])
            deeds = 0
            for _ in range(25):
                row = tuple(chance.randint(-2, 2) for _ in range(4))
                many = len(keeper.table())
                deed = chance.choice(("change", "put", "take", "undo"))
                if deed == "change":
                    keeper.change(chance.randrange(many), row)
                elif deed == "put" and many < 8:
                    keeper.put(chance.randint(0, many), row)
                elif deed == "take" and many > 1:
                    keeper.take(chance.randrange(many))
                elif deed == "undo" and deeds > 0:
                    keeper.undo()
                    deeds -= 2
                else:
                    continue
                deeds += 1
                self.assertEqual(steps(keeper.table(), RULES[seed % 3], 4), keeper.stands())
                self.assertIs(True, lets_steps(keeper.table(), keeper.stands()))


class PolysTest(unittest.TestCase):
    def test_put_where_no_under_comes_to_0(self):
        put_there = 0
        for table in POLY_TABLES:
            paper = poly_steps(table, len(table[0]))
            fallen = [number for number, _ in falls(table)]
            for number in range(-20, 21):
                there = table_at(table, number)
                told = tuple(stand_at(stand, number) for stand in paper)
                self.assertLessEqual(rank(there), len(paper[-1][0]))
                if number not in fallen:
                    self.assertEqual(steps(there, "first", len(there[0])), told)
                    self.assertEqual(len(paper[-1][0]), rank(there))
                    put_there += 1
                else:
                    self.assertIn(0, [stand[1] for stand in told])
        self.assertTrue(put_there > 500)

    def test_farther_numbers(self):
        for table in POLY_TABLES:
            paper = poly_steps(table, len(table[0]))
            for number in (-999, -21, 21, 998, 999):
                there = table_at(table, number)
                told = tuple(stand_at(stand, number) for stand in paper)
                self.assertLessEqual(rank(there), len(paper[-1][0]))
                if all(stand[1] != 0 for stand in told):
                    self.assertEqual(steps(there, "first", len(there[0])), told)

    def test_a_fall_may_lower_the_rank(self):
        table = (((0, 1), (1,)), ((1,), (0, 1)))
        self.assertEqual([1, 2, 1], [rank(table_at(table, number)) for number in (-1, 0, 1)])
        self.assertEqual(2, len(poly_steps(table, 2)[-1][0]))


if __name__ == "__main__":
    unittest.main()

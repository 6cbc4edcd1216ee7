import copy
import unittest

from oracle import (
    MANY_TABLES, ODD_THINGS, POLY_TABLES, X, just_tuples, places_left, poly_corner_told, poly_table, random_paper,
    stand_told, steps_told, told_alike,
)
from cornersteps.errors import CornerError, NoPaper, NoStep
from cornersteps.polysteps import (
    falls, first_poly_stand, is_poly_table, poly_stepped, poly_steps, stand_at, table_at,
)

def poly_stand(table, picked):
    return stand_told(table, picked, poly_corner_told, ())


class IsPolyTableTest(unittest.TestCase):
    def told(self, wanted, thing):
        kept = copy.deepcopy(thing)
        for _ in range(2):
            self.assertIs(wanted, is_poly_table(thing), thing)
        self.assertEqual(kept, thing)

    def test_tables_of_polys(self):
        for table in POLY_TABLES + [(((10 ** 399,),),), (((),) * 30,) * 30]:
            self.told(True, table)

    def test_tables_of_numbers(self):
        for table in MANY_TABLES:
            self.told(False, table)

    def test_near_misses(self):
        misses = [
            (), ((),), ((), ()), [], [[(1,)]], [((1,),)], ([(1,)],), (((1,),), [(1,)]), (([1],),), (((0,),),),
            (((1, 0),),), (((True,),),), (((1, True),),), (((None,),),), ((("1",),),), (("1",),), ((None,),), (({},),),
            (((1,), (2,)), ((3,),)), (((3,),), ((1,), (2,))), (((1,),), ()), ((), ((1,),)), (((1,), 2),), ((2, (1,)),),
            (((1,),), 5), (((1,),), None), ((((1,),),),), {}, {0: ((1,),)}, "((1,),)", None, True, 0, (1,), ((1,),),
            (((1,),), ((1, 0),)), (((1,),), ((False,),)), ((((),),),),
        ]
        for thing in misses:
            self.told(False, thing)
        for thing in ODD_THINGS:
            # One of the odd things is a table of polys.
            self.told(thing == (((1,),),), thing)


class PolyStandsTest(unittest.TestCase):
    def test_the_first_stand(self):
        for table in POLY_TABLES:
            told = told_alike(first_poly_stand, table)
            self.assertEqual(((), (1,), table), told)
            self.assertEqual(poly_stand(table, ()), told)
            self.assertTrue(just_tuples(told))

    def test_by_hand(self):
        first = first_poly_stand(((X, (1,)), ((1,), X)))
        second = poly_stepped(first, 0, 0)
        self.assertEqual((((0, 0),), X, ((X, (1,)), ((), (-1, 0, 1)))), second)
        under = (-1, 0, 1)
        self.assertEqual((((0, 0), (1, 1)), under, ((under, ()), ((), under))), poly_stepped(second, 1, 1))

    def test_steps_at_any_pairs(self):
        for seed, table in enumerate(POLY_TABLES):
            for turn in range(4):
                stand = first_poly_stand(table)
                for told in random_paper(table, seed * 10 + turn, 4, poly_corner_told, ())[1:]:
                    stand = told_alike(poly_stepped, stand, *told[0][-1])
                    self.assertEqual(told, stand)
                    self.assertTrue(just_tuples(stand))

    def test_steps_at_all_pairs_one_behind_the_other(self):
        for table in POLY_TABLES[:14]:
            stands = [first_poly_stand(table)]
            while stands:
                stand = stands.pop()
                self.assertEqual(poly_stand(table, stand[0]), stand)
                stands += [poly_stepped(stand, row, column) for row, column in places_left(stand)]

    def refused(self, stand, row, column):
        kept = repr(stand)
        for _ in range(2):
            with self.assertRaises(NoStep) as caught:
                poly_stepped(stand, row, column)
            self.assertIs(NoStep, type(caught.exception))
            self.assertIsInstance(caught.exception, CornerError)
            self.assertNotIsInstance(caught.exception, NoPaper)
            self.assertEqual((row, column), (caught.exception.row, caught.exception.column))
        self.assertEqual(kept, repr(stand))

    def test_no_step_at_any_other_place(self):
        for seed, table in enumerate(POLY_TABLES):
            for stand in random_paper(table, seed, 4, poly_corner_told, ()):
                for row in range(len(table)):
                    for column in range(len(table[0])):
                        if (row, column) not in places_left(stand):
                            self.refused(stand, row, column)

    def test_no_step_each_cause(self):
        table = ((X, (), (1,)), ((0, 2), (3,), (2,)))
        first = first_poly_stand(table)
        self.refused(first, 0, 1)
        behind = poly_stepped(first, 0, 0)
        self.refused(behind, 0, 2)
        self.refused(behind, 1, 0)
        self.refused(behind, 1, 2)
        # A stand has noughts in a picked column, so only a poly that is no corner tells the two causes apart.
        self.refused((((0, 0),), (1,), (((1,), X), (X, X))), 1, 0)


class PolyStepsTest(unittest.TestCase):
    def test_the_first_so_many_columns_none_to_all(self):
        for table in POLY_TABLES:
            for wide in range(len(table[0]) + 1):
                told = told_alike(poly_steps, table, wide)
                self.assertEqual(steps_told(table, "first", wide, poly_corner_told, ()), told)
                self.assertTrue(just_tuples(told))

    def test_none_of_the_columns(self):
        self.assertEqual((((), (1,), ((X, X),)),), poly_steps(((X, X),), 0))

    def test_a_poly_that_only_comes_to_0_somewhere_is_picked(self):
        self.assertEqual(((0, 0),), poly_steps(((X,), ((1,),)), 1)[-1][0])
        self.assertEqual(((1, 0),), poly_steps((((),), ((-1, 1),)), 1)[-1][0])


class FallsTest(unittest.TestCase):
    def test_by_hand(self):
        self.assertEqual([(-1, 2), (0, 1), (1, 2)], falls(((X, (1,)), ((1,), X))))
        self.assertEqual([], falls((((),),)))
        self.assertEqual([], falls((((5,),),)))
        self.assertEqual([(0, 1)], falls(((X,),)))
        # At 0 both unders come to 0: the first such stand is told.
        self.assertEqual([(0, 1), (3, 2)], falls(((X, ()), ((), (0, -3, 1)))))

    def test_the_bounds(self):
        for number in (-21, -20, -19, 0, 19, 20, 21):
            wanted = [(number, 1)] if -20 <= number <= 20 else []
            self.assertEqual(wanted, falls((((-number, 1),),)))
        # (x - 20) times (x + 20), and (x - 21) times (x + 20).
        self.assertEqual([(-20, 1), (20, 1)], falls((((-400, 0, 1),),)))
        self.assertEqual([(-20, 1)], falls((((-420, -1, 1),),)))

    def test_against_the_steps_told(self):
        found = 0
        for table in POLY_TABLES + [poly_table(seed, 2, 2, 2) for seed in range(50, 80)]:
            stands = steps_told(table, "first", len(table[0]), poly_corner_told, ())
            wanted = []
            for number in range(-20, 21):
                places = [k for k, stand in enumerate(stands)
                          if sum(factor * number ** at for at, factor in enumerate(stand[1])) == 0]
                wanted += [(number, place) for place in places[:1]]
            told = told_alike(falls, table)
            self.assertEqual(wanted, told)
            self.assertIs(list, type(told))
            self.assertTrue(all(type(pair) is tuple and just_tuples(pair) for pair in told))
            found += len(told)
        self.assertTrue(found > 30)

    def test_what_is_told_is_the_askers_own(self):
        table = ((X, (1,)), ((1,), X))
        told = falls(table)
        told.append("more")
        told[0] = None
        self.assertEqual([(-1, 2), (0, 1), (1, 2)], falls(table))


class PutAtTest(unittest.TestCase):
    def test_by_hand(self):
        self.assertEqual(((0, 2), (321, -5)), table_at((((), (2,)), ((1, 2, 3), (5, -1))), 10))
        stand = (((0, 0),), X, ((X, (1,)), ((), (-1, 0, 1))))
        self.assertEqual((((0, 0),), 3, ((3, 1), (0, 8))), stand_at(stand, 3))

    def test_where_the_under_comes_to_0(self):
        stand = (((0, 0),), X, ((X, (1,)), ((), (-1, 0, 1))))
        self.assertEqual((((0, 0),), 0, ((0, 1), (0, -1))), stand_at(stand, 0))

    def test_many(self):
        for table in POLY_TABLES:
            for number in (-999, -7, 0, 1, 20, 999):
                wanted = tuple(tuple(sum(factor * number ** at for at, factor in enumerate(poly)) for poly in row)
                               for row in table)
                told = told_alike(table_at, table, number)
                self.assertEqual(wanted, told)
                self.assertTrue(just_tuples(told))
                for stand in poly_steps(table, len(table[0])):
                    under = sum(factor * number ** at for at, factor in enumerate(stand[1]))
                    put = told_alike(stand_at, stand, number)
                    self.assertEqual((stand[0], under, table_at(stand[2], number)), put)
                    self.assertTrue(just_tuples(put))
                    if under != 0:
                        self.assertEqual(stand_told(wanted, stand[0]), put)


if __name__ == "__main__":
    unittest.main()

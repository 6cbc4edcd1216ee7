import copy
import random
import unittest
from fractions import Fraction

from oracle import BIG, ODD_THINGS, just_tuples, poly_product, poly_sum, told_alike
from cornersteps.errors import CornerError, NoBack, NoQuotient
from cornersteps.polys import degree, is_poly, poly_minus, poly_over, poly_plus, poly_times, value_at


def some_polys(seed, many, size):
    """Polys of up to six numbers, the same ones for the same arguments."""
    chance = random.Random(seed)
    told = []
    for _ in range(many):
        numbers = [chance.choice((0, chance.randint(-size, size))) for _ in range(chance.randint(0, 6))]
        told.append(poly_sum(tuple(numbers)))
    return told


def quotient_told(one, other):
    """By fractions: the one's highest part taken off till it is lower than the other one; None of no poly."""
    if other == ():
        return None
    left, quotient = [Fraction(number) for number in one], {}
    while len(left) >= len(other):
        place, factor = len(left) - len(other), left[-1] / other[-1]
        quotient[place] = factor
        left = [number - factor * other[k - place] if k >= place else number for k, number in enumerate(left)][:-1]
    if any(left) or any(factor.denominator != 1 for factor in quotient.values()):
        return None
    return poly_sum(tuple(int(quotient[place]) for place in sorted(quotient)))


POLYS = [(), (1,), (-1,), (2,), (0, 1), (0, -1), (1, 1), (-1, 1), (1, -1), (1, 2, 1), (0, 0, 0, 0, 0, 7), (-1, 0, 1),
         (2, 4), (3, 0, 0, -6), (BIG, -BIG, 1), (0, 10 ** 12 - 1)] + some_polys(1, 12, 3) + some_polys(2, 6, 10 ** 12 - 1)


class IsPolyTest(unittest.TestCase):
    def told(self, wanted, thing):
        kept = copy.deepcopy(thing)
        for _ in range(2):
            self.assertIs(wanted, is_poly(thing), thing)
        self.assertEqual(kept, thing)

    def test_polys(self):
        for poly in POLYS + [(0, 0, 1), (10 ** 399,), (0,) * 1000 + (-1,)]:
            self.told(True, poly)

    def test_a_last_number_0(self):
        for thing in [(0,), (0, 0), (1, 0), (0, 1, 0), (5, 4, 3, 2, 1, 0), (1,) + (0,) * 1000]:
            self.told(False, thing)

    def test_other_things(self):
        things = [
            True, False, None, 0, 1, "", "1", "12", [], [1], [0, 1], {}, {0: 1}, {1: 1}, (True,), (1, True), (True, 1),
            (False, 1), (1, False), ("1",), (1, "1"), (None,), (None, 1), ((1,),), (1, (1,)), ([],), ([1], 1), ({}, 1),
            ((),), ((1,), (2,)), ((), 1), (1, None),
        ]
        for thing in things:
            self.told(False, thing)
        for thing in ODD_THINGS:
            self.told(thing == () and type(thing) is tuple, thing)


class SumsTest(unittest.TestCase):
    def test_by_hand(self):
        self.assertEqual((4, 2), poly_plus((1, 2), (3,)))
        self.assertEqual((-2, 2), poly_minus((1, 2), (3,)))
        self.assertEqual((2, -2), poly_minus((3,), (1, 2)))
        self.assertEqual((-1, 0, 1), poly_times((1, 1), (-1, 1)))
        self.assertEqual((0, 0, 0, 6), poly_times((0, 2), (0, 0, 3)))

    def test_what_falls_away(self):
        self.assertEqual((), poly_plus((1, 2), (-1, -2)))
        self.assertEqual((), poly_minus((1, 2, 3), (1, 2, 3)))
        self.assertEqual((1,), poly_plus((1, 0, 5), (0, 0, -5)))
        self.assertEqual((0, 3), poly_minus((1, 3, 4, 5), (1, 0, 4, 5)))
        self.assertEqual((0, 0, 1), poly_plus((0, 0, 1), ()))

    def test_nothing(self):
        for poly in POLYS:
            self.assertEqual(poly, poly_plus(poly, ()))
            self.assertEqual(poly, poly_plus((), poly))
            self.assertEqual(poly, poly_minus(poly, ()))
            self.assertEqual(tuple(-number for number in poly), poly_minus((), poly))
            self.assertEqual((), poly_times(poly, ()))
            self.assertEqual((), poly_times((), poly))
            self.assertEqual(poly, poly_times((1,), poly))

    def test_against_sums_place_by_place(self):
        for one in POLYS:
            for other in POLYS:
                told = [told_alike(ask, one, other) for ask in (poly_plus, poly_minus, poly_times)]
                contrary = tuple(-number for number in other)
                wanted = [poly_sum(one, other), poly_sum(one, contrary), poly_product(one, other)]
                self.assertEqual(wanted, told)
                for poly in told:
                    self.assertTrue(is_poly(poly) and just_tuples(poly))
                for number in (-3, 0, 2):
                    values = [value_at(poly, number) for poly in told]
                    a, b = value_at(one, number), value_at(other, number)
                    self.assertEqual([a + b, a - b, a * b], values)


class OverTest(unittest.TestCase):
    def refused(self, one, other):
        for _ in range(2):
            with self.assertRaises(NoQuotient) as caught:
                poly_over(one, other)
            error = caught.exception
            self.assertIs(NoQuotient, type(error))
            self.assertIsInstance(error, CornerError)
            self.assertNotIsInstance(error, NoBack)
            self.assertIs(one, error.one)
            self.assertIs(other, error.other)

    def test_by_hand(self):
        self.assertEqual((-1, 1), poly_over((-1, 0, 1), (1, 1)))
        self.assertEqual((1, 1), poly_over((-1, 0, 1), (-1, 1)))
        self.assertEqual((0, -2), poly_over((0, 0, 6), (0, -3)))

    def test_the_product_of_any_two_by_either(self):
        for one in POLYS:
            for other in POLYS:
                product = poly_product(one, other)
                if other != ():
                    told = told_alike(poly_over, product, other)
                    self.assertEqual(one, told)
                    self.assertTrue(just_tuples(told))
                if one != ():
                    self.assertEqual(other, poly_over(product, one))

    def test_by_nothing(self):
        for poly in POLYS:
            self.refused(poly, ())

    def test_nothing_by_any_other(self):
        for poly in POLYS:
            if poly != ():
                self.assertEqual((), poly_over((), poly))

    def test_a_number_that_does_not_come_out_even(self):
        for one, other in [((1,), (2,)), ((3, 6), (2,)), ((2, 3), (2,)), ((3, 2), (2,)), ((1, 2, 1), (2, 2)),
                           ((1, 1), (2, 2)), ((BIG,), (BIG + 1,)), ((1,), (-2,)), ((0, 0, 3), (0, 2)), ((1, 4), (1, 3))]:
            self.refused(one, other)

    def test_something_is_left(self):
        for one, other in [((1,), (0, 1)), ((1, 1), (0, 1)), ((2, 2, 1), (1, 1)), ((5,), (1, 1)), ((1, 0, 1), (1, 1)),
                           ((1, 2, 3), (1, 1, 1, 1)), ((0, 1), (0, 0, 1)), ((1, 0, 0, 1), (-1, 1)), ((1,), (1, 2))]:
            self.refused(one, other)

    def test_refused_just_where_no_poly_will_do(self):
        told, refused = 0, 0
        for one in POLYS:
            for other in POLYS[1:]:
                wanted = quotient_told(one, other)
                if wanted is None:
                    self.refused(one, other)
                    refused += 1
                elif other != ():
                    self.assertEqual(wanted, poly_over(one, other))
                    told += 1
        self.assertTrue(told > 100 and refused > 100)

    def test_products_with_one_number_off(self):
        for one in POLYS:
            for other in POLYS:
                if len(other) > 1:
                    product = poly_product(one, other)
                    # The other one has degree 1 or more, so it divides no number but 0.
                    self.refused(poly_sum(product, (1,)), other)
                    self.refused(poly_sum(product, (-BIG,)), other)


class DegreeAndValueTest(unittest.TestCase):
    def test_degrees(self):
        self.assertEqual([-1, 0, 1, 2, 5], [degree(poly) for poly in ((), (7,), (0, 1), (1, 2, 1), (0, 0, 0, 0, 0, 7))])
        for poly in POLYS:
            self.assertEqual(len(poly) - 1, told_alike(degree, poly))

    def test_values(self):
        self.assertEqual(0, value_at((), 5))
        self.assertEqual(0, value_at((), 0))
        self.assertEqual(7, value_at((7,), -999))
        self.assertEqual(321, value_at((1, 2, 3), 10))
        self.assertEqual(281, value_at((1, -2, 3), 10))
        self.assertEqual(-1, value_at((0, 0, 0, 1), -1))
        for poly in POLYS:
            for number in (-999, -20, -1, 0, 1, 2, 999):
                wanted = sum(factor * number ** place for place, factor in enumerate(poly))
                told = told_alike(value_at, poly, number)
                self.assertIs(int, type(told))
                self.assertEqual(wanted, told)


if __name__ == "__main__":
    unittest.main()

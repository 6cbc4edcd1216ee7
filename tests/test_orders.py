import itertools
import unittest

from oracle import ODD_THINGS
from cornersteps.orders import all_orders, is_order, sign_of


def sign_by_exchanges(order):
    """The sign by how many exchanges of two numbers sort the order."""
    numbers, sign = list(order), 1
    for at in range(len(numbers)):
        least = numbers.index(min(numbers[at:]))
        if least != at:
            numbers[at], numbers[least] = numbers[least], numbers[at]
            sign = -sign
    return sign


class OrdersTest(unittest.TestCase):
    def test_all_orders_of_few(self):
        self.assertEqual([()], all_orders(0))
        self.assertEqual([(0,)], all_orders(1))
        self.assertEqual([(0, 1), (1, 0)], all_orders(2))
        self.assertEqual([(0, 1, 2), (0, 2, 1), (1, 0, 2), (1, 2, 0), (2, 0, 1), (2, 1, 0)], all_orders(3))

    def test_all_orders_rise_and_are_each_there_once(self):
        for many in range(7):
            told = all_orders(many)
            self.assertIs(list, type(told))
            self.assertTrue(all(type(order) is tuple for order in told))
            self.assertTrue(all(type(number) is int for order in told for number in order))
            self.assertTrue(all(one < other for one, other in zip(told, told[1:])))
            self.assertEqual(list(itertools.permutations(range(many))), told)

    def test_a_told_list_that_is_changed_leaves_the_next_one(self):
        for many in range(6):
            told = all_orders(many)
            kept = list(told)
            told.append("more")
            told[0] = "other"
            told.reverse()
            self.assertEqual(kept, all_orders(many))
            all_orders(many).clear()
            self.assertEqual(kept, all_orders(many))

    def test_signs_of_few(self):
        signs = [
            ((), 1), ((0,), 1), ((99,), 1), ((0, 1), 1), ((1, 0), -1), ((3, 98), 1), ((99, 0), -1), ((0, 2, 1), -1),
            ((2, 0, 1), 1), ((1, 2, 0), 1), ((2, 1, 0), -1), ((99, 50, 3), -1), ((50, 99, 3), 1),
            ((5, 4, 3, 2, 1, 0), -1), ((4, 3, 2, 1, 0), 1), ((10, 99, 7, 42, 0, 55), 1),
            ((99, 10, 7, 42, 0, 55), -1),
        ]
        for order, sign in signs:
            self.assertEqual(sign, sign_of(order), order)
            self.assertIs(int, type(sign_of(order)))

    def test_signs_of_all_orders(self):
        for many in range(7):
            for order in itertools.permutations((0, 3, 17, 42, 98, 99)[:many]):
                self.assertEqual(sign_by_exchanges(order), sign_of(order), order)

    def test_two_places_exchanged_have_the_other_sign(self):
        for order in itertools.permutations((2, 5, 11, 99)):
            for i, j in itertools.combinations(range(4), 2):
                other = list(order)
                other[i], other[j] = other[j], other[i]
                self.assertEqual(-sign_of(order), sign_of(tuple(other)))

    def test_asked_twice_a_sign_is_the_same(self):
        order = (4, 1, 3)
        self.assertEqual([-sign_of((1, 4, 3))] * 2, [sign_of(order), sign_of(order)])
        self.assertEqual((4, 1, 3), order)

    def test_is_order(self):
        for thing in [(), (0,), (2, 0, 1), (4, 2)]:
            self.assertIs(True, is_order(5, thing))
        for thing in [(5,), (-1,), (1, 1), (True,), (0, False), [0], (0, "1"), (None,), ((0,),), ([],)]:
            self.assertIs(False, is_order(5, thing), thing)
        for thing in ODD_THINGS:
            self.assertIs(thing == () and type(thing) is tuple, is_order(5, thing), thing)


if __name__ == "__main__":
    unittest.main()

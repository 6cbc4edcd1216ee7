import copy
import unittest

from oracle import BIG, ODD_THINGS
from cornersteps.errors import CornerError, NoBack
from cornersteps.primes import back_by, is_prime


def sieve(below):
    """The primes below the number, by striking out."""
    left = list(range(2, below))
    told = []
    while left:
        told.append(left[0])
        left = [number for number in left if number % told[-1]]
    return told


PRIMES = sieve(10101)


class IsPrimeTest(unittest.TestCase):
    def test_each_number_from_minus_3_to_10100(self):
        told = [number for number in range(-3, 10101) if is_prime(number)]
        self.assertEqual([prime for prime in PRIMES if prime <= 9973], told)
        self.assertEqual((2, 9973, 1229), (told[0], told[-1], len(told)))

    def test_it_tells_truths(self):
        for number in (-3, -2, 0, 1, 2, 3, 4, 9, 25, 9409, 9973, 9974, 10007, 10009):
            told = is_prime(number)
            self.assertIs(number in (2, 3, 9973), told)
            self.assertIs(told, is_prime(number))

    def test_beyond_the_greatest(self):
        for number in (10007, 10009, 10037, 104729, 2 ** 61 - 1, 2 ** 127 - 1, 10 ** 399 + 7, -2, -3, -9973):
            self.assertIs(False, is_prime(number))

    def test_other_things(self):
        things = [
            True, False, None, "2", "3", "9973", "", (2,), (2, 3), [2], [], (), {2: 3}, {}, [[3]], ((5,),), ("7",),
            {"prime": 2},
        ]
        for thing in things + [thing for thing in ODD_THINGS if type(thing) is not int]:
            kept = copy.deepcopy(thing)
            self.assertIs(False, is_prime(thing), thing)
            self.assertIs(False, is_prime(thing), thing)
            self.assertEqual(kept, thing)


class BackByTest(unittest.TestCase):
    def right(self, number, prime):
        told = back_by(number, prime)
        self.assertIs(int, type(told))
        self.assertTrue(1 <= told < prime, (number, prime, told))
        self.assertEqual(1, number * told % prime, (number, prime, told))
        self.assertEqual(told, back_by(number, prime))

    def refused(self, number, prime):
        for _ in range(2):
            with self.assertRaises(NoBack) as caught:
                back_by(number, prime)
            error = caught.exception
            self.assertIs(NoBack, type(error))
            self.assertIsInstance(error, CornerError)
            self.assertIs(number, error.number)
            self.assertIs(prime, error.prime)

    def test_by_hand(self):
        self.assertEqual([1, 4, 5, 2, 3, 6], [back_by(number, 7) for number in range(1, 7)])
        self.assertEqual(1, back_by(1, 2))
        self.assertEqual(1, back_by(-1, 2))
        self.assertEqual(2, back_by(-1, 3))
        self.assertEqual(9972, back_by(-1, 9973))
        self.assertEqual(4987, back_by(2, 9973))

    def test_each_number_below_small_primes(self):
        for prime in PRIMES[:30]:
            for number in range(1, prime):
                self.right(number, prime)
            self.assertEqual(list(range(1, prime)), sorted(back_by(number, prime) for number in range(1, prime)))

    def test_each_number_below_the_greatest_prime(self):
        told = [back_by(number, 9973) for number in range(1, 9973)]
        self.assertEqual([1] * 9972, [number * other % 9973 for number, other in enumerate(told, 1)])
        self.assertEqual(list(range(1, 9973)), sorted(told))

    def test_numbers_below_0_and_great_ones(self):
        numbers = [-1, -2, -5, -BIG, BIG, 10 ** 12 - 1, -10 ** 12 + 1, 10 ** 400 - 1, 3 ** 830, -3 ** 830, 10 ** 399]
        for number in numbers:
            for prime in PRIMES[:40] + [9967, 9973]:
                if number % prime:
                    self.right(number, prime)
                    self.assertEqual(back_by(number % prime, prime), back_by(number, prime))
                else:
                    self.refused(number, prime)

    def test_each_prime(self):
        for prime in PRIMES:
            if prime <= 9973:
                for number in (1, prime - 1, prime + 1, 12345 * prime + 1, -prime - 1):
                    self.right(number, prime)

    def test_refused_where_the_prime_divides_the_number(self):
        for prime in (2, 3, 5, 97, 9973):
            for factor in (0, 1, -1, 2, prime, BIG, -BIG, 10 ** 390):
                self.refused(prime * factor, prime)
        self.refused(0, 2)
        self.refused(0, 9973)
        self.refused(4, 2)
        self.refused(-9, 3)


if __name__ == "__main__":
    unittest.main()

"""Primes, and backs of whole numbers by a prime."""

from cornersteps.basics import is_whole
from cornersteps.errors import NoBack

GREATEST = 9973


def is_prime(thing):
    """Whether the thing is a PRIME."""
    if not is_whole(thing) or thing < 2 or thing > GREATEST:
        return False
    divisor = 2
    while divisor * divisor <= thing:
        if thing % divisor == 0:
            return False
        divisor += 1
    return True


def back_by(number, prime):
    """The number from 1 below the prime whose product with the number leaves 1 by the prime."""
    ahead, left = prime, number % prime
    if left == 0:
        raise NoBack(number, prime)
    factor_ahead, factor = 0, 1
    # All along, what is left is what the factor times the number leaves by the prime.
    while left != 1:
        many = ahead // left
        ahead, left = left, ahead - many * left
        factor_ahead, factor = factor, factor_ahead - many * factor
    return factor % prime

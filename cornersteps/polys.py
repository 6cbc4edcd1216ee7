"""Polynomials with whole numbers: sums, products, quotients that come out even, and values."""

from cornersteps.basics import is_whole
from cornersteps.errors import NoQuotient


def is_poly(thing):
    """Whether the thing is a POLY."""
    if not isinstance(thing, tuple) or not all([is_whole(number) for number in thing]):
        return False
    return len(thing) == 0 or thing[-1] != 0


def trimmed(numbers):
    """The POLY of the numbers: what stands behind the last one other than 0 falls away."""
    many = len(numbers)
    while many > 0 and numbers[many - 1] == 0:
        many -= 1
    return tuple(numbers[:many])


def poly_plus(one, other):
    """Both added."""
    numbers = [0] * max(len(one), len(other))
    for poly in (one, other):
        for place, number in enumerate(poly):
            numbers[place] += number
    return trimmed(numbers)


def poly_minus(one, other):
    """The other one taken from the one."""
    return poly_plus(one, tuple([-number for number in other]))


def poly_times(one, other):
    """Both multiplied."""
    # One place more than a product needs, so that there are enough of () too.
    numbers = [0] * (len(one) + len(other))
    for place, number in enumerate(one):
        for at, factor in enumerate(other):
            numbers[place + at] += number * factor
    return trimmed(numbers)


def poly_over(one, other):
    """The POLY whose product with the other one is the one."""
    if len(other) == 0:
        raise NoQuotient(one, other)
    left = list(one)
    quotient = [0] * len(one)
    # From the last place down each number of a quotient is due; one that doesn't come out even leaves something there.
    for place in reversed(range(len(one) - len(other) + 1)):
        factor = left[place + len(other) - 1] // other[-1]
        quotient[place] = factor
        for at, number in enumerate(other):
            left[place + at] -= factor * number
    if any([number != 0 for number in left]):
        raise NoQuotient(one, other)
    return trimmed(quotient)


def degree(poly):
    """How many numbers it has, less 1."""
    return len(poly) - 1


def value_at(poly, number):
    """The value of the poly at the number."""
    value = 0
    for factor in reversed(poly):
        value = value * number + factor
    return value

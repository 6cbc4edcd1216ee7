"""Stands by a prime: each corner is what is left of it by the prime."""

from cornersteps.primes import back_by
from cornersteps.rules import first_pair, steps_from
from cornersteps.stands import crosswise, first_stand, step_made


def left_by(row, prime):
    """What is left of the row's numbers by the prime."""
    return tuple([number % prime for number in row])


def first_by(table, prime):
    """The first STAND BY the PRIME of the table."""
    return first_stand(tuple([left_by(row, prime) for row in table]))


def stepped_by(stand, prime, row, column):
    """The STAND BY the PRIME behind a step at the row and the column."""
    def line_by(line, picked_line, at, under):
        # A number times its back leaves 1 by the prime, so this divides by the under.
        factor = back_by(under, prime)
        return left_by([factor * number for number in crosswise(line, picked_line, at)], prime)

    return step_made(stand, row, column, 0, line_by)


def steps_by(table, prime, wide):
    """The STEPS BY the PRIME of the table, of the first so many columns, by "first"."""
    return steps_from(
        first_by(table, prime),
        lambda stand: first_pair(stand, wide, 0),
        lambda stand, row, column: stepped_by(stand, prime, row, column),
    )

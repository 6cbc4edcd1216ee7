"""Ranks by a prime, and which primes mislead."""

from cornersteps.primesteps import steps_by
from cornersteps.ranks import rank


def rank_by(table, prime):
    """The RANK of the table BY the PRIME."""
    return len(steps_by(table, prime, len(table[0]))[-1][0])


def misleading(table, primes):
    """Those of the primes by which the rank is less than the table's rank, in their order."""
    many = rank(table)
    return tuple([prime for prime in primes if rank_by(table, prime) < many])

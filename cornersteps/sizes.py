"""Bounds of a corner's size and of its square."""

from cornersteps.basics import product_of


def sum_bound(table, pick):
    """The product, over the pick's rows, of the sum of the numbers' sizes at its columns."""
    rows, columns = pick
    return product_of([sum([abs(table[i][j]) for j in columns]) for i in rows])


def square_bound(table, pick):
    """The product, over the pick's rows, of the sum of the numbers' squares at its columns."""
    rows, columns = pick
    return product_of([sum([table[i][j] * table[i][j] for j in columns]) for i in rows])

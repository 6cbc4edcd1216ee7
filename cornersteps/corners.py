"""Picks of a table, and the corner that a pick tells."""

from cornersteps.basics import is_pair, product_of
from cornersteps.orders import all_orders, is_order, sign_of


def is_pick(table, thing):
    """Whether the thing is a PICK of the table."""
    if not is_pair(thing):
        return False
    rows, columns = thing
    if not is_order(len(table), rows) or not is_order(len(table[0]), columns):
        return False
    return len(rows) == len(columns)


def corner(table, pick):
    """The CORNER of the table at the pick, by all its ORDERS."""
    rows, columns = pick
    total = 0
    for order in all_orders(len(rows)):
        numbers = [table[row][columns[at]] for row, at in zip(rows, order)]
        total += sign_of(order) * product_of(numbers)
    return total

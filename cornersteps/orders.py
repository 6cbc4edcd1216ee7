"""Orders of unlike numbers, and their signs."""

from cornersteps.basics import is_whole


def all_orders(many):
    """The ORDERS of the numbers 0 to many - 1, a rising list."""
    orders = [()]
    for at in range(many):
        # Each round puts one number more, the least first, behind rising beginnings, so the list stays rising.
        orders = [order + (number,) for order in orders for number in range(many) if number not in order]
    return orders


def sign_of(order):
    """1 where the order has an even number of CROSSINGS, else -1."""
    crossings = 0
    for at, number in enumerate(order):
        crossings += len([ahead for ahead in order[:at] if ahead > number])
    return 1 if crossings % 2 == 0 else -1


def is_order(many, thing):
    """Whether the thing is an ORDER of numbers below many."""
    if not isinstance(thing, tuple):
        return False
    if not all([is_whole(number) and 0 <= number < many for number in thing]):
        return False
    return len(set(thing)) == len(thing)

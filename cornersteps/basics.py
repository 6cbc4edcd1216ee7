"""What all other modules rest on: whole numbers, pairs and products."""


def is_whole(thing):
    """Whether the thing is a whole number."""
    # A truth is an int to Python, but True is no 1 here.
    return isinstance(thing, int) and not isinstance(thing, bool)


def is_pair(thing):
    """Whether the thing is a tuple of two."""
    return isinstance(thing, tuple) and len(thing) == 2


def product_of(numbers):
    """All numbers multiplied; 1 of none."""
    product = 1
    for number in numbers:
        product *= number
    return product

"""Looks at papers that show a square table's corner."""

from cornersteps.basics import is_whole
from cornersteps.errors import NoPaper
from cornersteps.stands import rows_left, sign_of_pairs
from cornersteps.stepchecker import lets_steps
from cornersteps.tables import has_noughts_alone


def lets_corner(table, number, thing):
    """True of a CORNER PAPER of the square table and the number; else refused with what is amiss first."""
    lets_steps(table, thing)
    shown = corner_shown(thing[-1])
    if shown is None:
        raise NoPaper("end", -1)
    if not is_whole(number) or number != shown:
        raise NoPaper("number", -1)
    return True


def corner_shown(stand):
    """The corner that the last stand of a square table's paper shows; None where it shows none."""
    picked, under, numbers = stand
    left = rows_left(stand)
    if len(left) == 0:
        return under * sign_of_pairs(picked)
    if any([has_noughts_alone(numbers[row]) for row in left]):
        return 0
    return None

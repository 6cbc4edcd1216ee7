"""Looks at papers that show a square table's corner."""

from cornersteps.basics import is_whole
from cornersteps.errors import NoPaper
from cornersteps.orders import sign_of
from cornersteps.stands import columns_of, rows_of
from cornersteps.stepchecker import lets_steps
from cornersteps.tables import has_noughts_alone


def lets_corner(table, number, thing):
    """True of a CORNER PAPER of the square table and the number; else refused with what is amiss first."""
    lets_steps(table, thing)
    picked, under, numbers = thing[-1]
    if len(picked) == len(table):
        shown = under * sign_of(rows_of(picked)) * sign_of(columns_of(picked))
    elif has_row_of_noughts(picked, numbers):
        shown = 0
    else:
        raise NoPaper("end", -1)
    if not is_whole(number) or number != shown:
        raise NoPaper("number", -1)
    return True


def has_row_of_noughts(picked, numbers):
    """Whether some row in no pair has noughts alone."""
    picked_rows = rows_of(picked)
    return any([i not in picked_rows and has_noughts_alone(line) for i, line in enumerate(numbers)])

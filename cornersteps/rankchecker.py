"""Looks at papers that show a table's rank."""

from cornersteps.basics import is_whole
from cornersteps.errors import NoPaper
from cornersteps.stands import rows_left
from cornersteps.stepchecker import lets_steps
from cornersteps.tables import has_noughts_alone


def lets_rank(table, many, thing):
    """True of a RANK PAPER of the table and the number; else refused with what is amiss first."""
    lets_steps(table, thing)
    look_at_rank(many, thing[-1])
    return True


def look_at_rank(many, stand):
    """Refuses a paper's last stand that shows no rank, or another one."""
    picked, under, numbers = stand
    if not all([has_noughts_alone(numbers[row]) for row in rows_left(stand)]):
        raise NoPaper("end", -1)
    if not is_whole(many) or many != len(picked):
        raise NoPaper("many", -1)

"""Looks at papers of steps by a prime, and at those that show a table's rank by it."""

from cornersteps.primesteps import first_by, left_by
from cornersteps.rankchecker import look_at_rank
from cornersteps.stands import crosswise, is_form
from cornersteps.stepchecker import lets_paper
from cornersteps.tables import so_many_times


def lets_steps_by(table, prime, thing):
    """True of a PAPER OF STEPS BY the PRIME of the table; else refused with what is amiss first."""
    def has_line_by(line, line_ahead, picked_line, column, under):
        wanted = crosswise(line_ahead, picked_line, column)
        return left_by(so_many_times(under, line), prime) == left_by(wanted, prime)

    return lets_paper(first_by(table, prime), 0, lambda stand: is_form_by(table, prime, stand), has_line_by, thing)


def is_form_by(table, prime, thing):
    """Whether the thing is of the FORM, its under and all its numbers from 0 below the prime."""
    if not is_form(table, thing):
        return False
    picked, under, numbers = thing
    return all([0 <= number < prime for row in numbers + ((under,),) for number in row])


def lets_rank_by(table, prime, many, thing):
    """True of a RANK PAPER BY the PRIME of the table and the number; else refused with what is amiss first."""
    lets_steps_by(table, prime, thing)
    look_at_rank(many, thing[-1])
    return True

"""Looks at backs of a square table, and at factors that bar any, by multiplying alone."""

from cornersteps.answerchecker import has_factors_form, is_under, look_at_columns
from cornersteps.errors import NoPaper
from cornersteps.tables import has_noughts_alone, is_table, plain, so_many_times, times


def lets_back(table, thing):
    """True of a BACK of the square table, or of FACTORS that bar any; else refused."""
    if has_back_form(table, thing):
        look_at_products(table, thing[1], thing[2])
    elif has_factors_form(table, thing):
        if has_noughts_alone(thing[1]):
            raise NoPaper("nought", 0)
        look_at_columns(table, thing[1])
    else:
        raise NoPaper("shape", 0)
    return True


def has_back_form(table, thing):
    """Whether the thing is ("back", numbers, under), the numbers a square table of as many rows."""
    if not isinstance(thing, tuple) or len(thing) != 3:
        return False
    word, numbers, under = thing
    if word != "back" or not is_table(numbers) or not is_under(under):
        return False
    return len(numbers) == len(table) and len(numbers[0]) == len(table)


def look_at_products(table, numbers, under):
    """Refuses numbers by which the table, multiplied, isn't under times the plain table."""
    plain_table = plain(len(table))
    # The other way round it is so too: a square table has one back alone, whichever side it stands on.
    for i, line in enumerate(times(table, numbers)):
        if line != so_many_times(under, plain_table[i]):
            raise NoPaper("there", i)

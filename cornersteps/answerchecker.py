"""Looks at answers, and at factors that bar any, by multiplying alone."""

from cornersteps.basics import is_whole
from cornersteps.errors import NoPaper
from cornersteps.tables import is_row, led_home, led_through, products_summed


def lets_answer(table, right, thing):
    """True of an ANSWER of the table and the right side, or of FACTORS that bar any; else refused."""
    if has_answer_form(table, thing):
        look_at_rows(table, right, thing[1], thing[2])
    elif has_factors_form(table, thing):
        look_at_columns(table, thing[1])
        look_at_right(right, thing[1])
    else:
        raise NoPaper("shape", 0)
    return True


def is_under(thing):
    """Whether the thing is a whole number other than 0."""
    return is_whole(thing) and thing != 0


def has_answer_form(table, thing):
    """Whether the thing is ("answer", tops, under), with a top for each column of the table."""
    if not isinstance(thing, tuple) or len(thing) != 3:
        return False
    word, tops, under = thing
    return word == "answer" and is_row(len(table[0]), tops) and is_under(under)


def has_factors_form(table, thing):
    """Whether the thing is ("none", factors), with a factor for each row of the table."""
    if not isinstance(thing, tuple) or len(thing) != 2:
        return False
    word, factors = thing
    return word == "none" and is_row(len(table), factors)


def look_at_rows(table, right, tops, under):
    """Refuses tops that, led home, aren't under times the right side."""
    for i, number in enumerate(led_home(table, tops)):
        if number != under * right[i]:
            raise NoPaper("row", i)


def look_at_columns(table, factors):
    """Refuses factors that, led through the table, don't come to noughts alone."""
    for j, number in enumerate(led_through(factors, table)):
        if number != 0:
            raise NoPaper("column", j)


def look_at_right(right, factors):
    """Refuses factors whose products with the right side's numbers sum to 0."""
    if products_summed(right, factors) == 0:
        raise NoPaper("right", 0)

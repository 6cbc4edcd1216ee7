"""Stands of a table: their form, the first one, and the one behind a step."""

from cornersteps.basics import is_pair, is_whole
from cornersteps.errors import NoStep
from cornersteps.orders import is_order, sign_of
from cornersteps.tables import is_table_of


def rows_of(picked):
    """The rows of the pairs, in their order."""
    return tuple([pair[0] for pair in picked])


def columns_of(picked):
    """The columns of the pairs, in their order."""
    return tuple([pair[1] for pair in picked])


def sign_of_pairs(picked):
    """The SIGN of the pairs' rows times the SIGN of their columns."""
    return sign_of(rows_of(picked)) * sign_of(columns_of(picked))


def rows_left(stand):
    """The rows in no pair, rising."""
    picked_rows = rows_of(stand[0])
    return [row for row in range(len(stand[2])) if row not in picked_rows]


def columns_left(stand):
    """The columns in no pair, rising."""
    picked_columns = columns_of(stand[0])
    return [column for column in range(len(stand[2][0])) if column not in picked_columns]


def is_picked(table, thing):
    """Whether the thing is a tuple of pairs of the table, no row and no column in two of them."""
    if not isinstance(thing, tuple) or not all([is_pair(pair) for pair in thing]):
        return False
    return is_order(len(table), rows_of(thing)) and is_order(len(table[0]), columns_of(thing))


def is_form(table, thing):
    """Whether the thing is of the FORM of a STAND of the table."""
    return is_form_of(is_whole, table, thing)


def is_form_of(is_number, table, thing):
    """Whether the thing is of the FORM of a STAND of the table, whose numbers are such to is_number."""
    if not isinstance(thing, tuple) or len(thing) != 3:
        return False
    picked, under, numbers = thing
    if not is_picked(table, picked) or not is_number(under) or not is_table_of(is_number, numbers):
        return False
    return len(numbers) == len(table) and len(numbers[0]) == len(table[0])


def first_stand(table):
    """The FIRST STAND of the table."""
    return ((), 1, table)


def stepped(stand, row, column):
    """The STAND behind a step at the row and the column."""
    return step_made(stand, row, column, 0, line_behind)


def step_made(stand, row, column, nought, line_of):
    """The stand behind a step; line_of makes each other row, of it, the picked row, the column and the under."""
    picked, under, numbers = stand
    new_under = numbers[row][column]
    if row in rows_of(picked) or column in columns_of(picked) or new_under == nought:
        raise NoStep(row, column)
    picked_line = numbers[row]
    behind = [line if i == row else line_of(line, picked_line, column, under) for i, line in enumerate(numbers)]
    return (picked + ((row, column),), new_under, tuple(behind))


def line_behind(line, picked_line, column, under):
    """What a step at the picked row and the column puts in the place of another row."""
    # Both products are corners multiplied crosswise, so the division comes out even (point 6).
    return tuple([number // under for number in crosswise(line, picked_line, column)])


def crosswise(line, picked_line, column):
    """The picked row's number in the column times the line, less the line's there times the picked row."""
    new_under = picked_line[column]
    factor = line[column]
    return [new_under * number - factor * other for number, other in zip(line, picked_line)]

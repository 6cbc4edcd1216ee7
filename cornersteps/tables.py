"""Tables: what one is, and the tables and rows that are made of tables and rows."""

from cornersteps.basics import is_whole


def is_row(many, thing):
    """Whether the thing is a ROW of so many."""
    return is_row_of(is_whole, many, thing)


def is_table(thing):
    """Whether the thing is a TABLE."""
    return is_table_of(is_whole, thing)


def is_row_of(is_number, many, thing):
    """Whether the thing is a tuple of so many, each one a number to is_number."""
    return isinstance(thing, tuple) and len(thing) == many and all([is_number(number) for number in thing])


def is_table_of(is_number, thing):
    """Whether the thing is a tuple of one row or more, all of as many numbers to is_number, one or more."""
    if not isinstance(thing, tuple) or len(thing) == 0:
        return False
    first = thing[0]
    if not isinstance(first, tuple) or len(first) == 0:
        return False
    return all([is_row_of(is_number, len(first), row) for row in thing])


def has_noughts_alone(row):
    """Whether all numbers of the row are 0."""
    return all([number == 0 for number in row])


def so_many_times(factor, row):
    """The row with each number multiplied by the factor."""
    return tuple([factor * number for number in row])


def turned(table):
    """The table's columns as rows."""
    return tuple([tuple([row[j] for row in table]) for j in range(len(table[0]))])


def plain(many):
    """The plain square table: 1 where row and column are alike, else 0."""
    return tuple([tuple([1 if i == j else 0 for j in range(many)]) for i in range(many)])


def times(one, other):
    """One table times another one that has as many rows as the one has columns."""
    return tuple([led_through(row, other) for row in one])


def taken(table, pick):
    """The table at the pick's rows and columns, in the pick's orders."""
    rows, columns = pick
    return tuple([tuple([table[i][j] for j in columns]) for i in rows])


def beside(table, other):
    """Each row of the table, and the other table's row behind."""
    return tuple([row + more for row, more in zip(table, other)])


def exchanged(table, i, j):
    """The table with the rows i and j exchanged."""
    rows = list(table)
    rows[i], rows[j] = rows[j], rows[i]
    return tuple(rows)


def with_row(table, place, row):
    """The table with the row in the place of the one there."""
    return table[:place] + (row,) + table[place + 1:]


def led_through(row, table):
    """At each column the sum of the row's factors times the table's numbers there."""
    return led_home(turned(table), row)


def led_home(table, row):
    """At each row of the table the sum of its numbers times those of the row handed in."""
    return tuple([products_summed(numbers, row) for numbers in table])


def products_summed(one, other):
    """The sum of the products of the numbers at like places."""
    return sum([number * factor for number, factor in zip(one, other)])

"""Answers of a table and a right side, why there is none, and the ways that answers differ by."""

from cornersteps.rules import last_beside, steps
from cornersteps.stands import columns_left, rows_left
from cornersteps.tables import beside, plain, turned


def answered(table, right, rule):
    """An ANSWER of the table and the right side by the rule, or FACTORS that bar any."""
    wide = len(table[0])
    stand = last_beside(table, beside(turned((right,)), plain(len(table))), rule)
    picked, under, numbers = stand
    for row in rows_left(stand):
        if numbers[row][wide] != 0:
            return ("none", numbers[row][wide + 1:])
    tops = [0] * wide
    for row, column in picked:
        tops[column] = numbers[row][wide]
    return ("answer", tuple(tops), under)


def ways(table, rule):
    """The WAYS of the table by the rule, one for each column in no pair, rising."""
    stand = steps(table, rule, len(table[0]))[-1]
    return tuple([way_of(stand, column) for column in columns_left(stand)])


def way_of(stand, free):
    """The ROW that leads home to noughts, with the under at the free column and 0 at the others in no pair."""
    picked, under, numbers = stand
    way = [0] * len(numbers[0])
    way[free] = under
    for row, column in picked:
        way[column] = -numbers[row][free]
    return tuple(way)

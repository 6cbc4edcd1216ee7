"""Backs of square tables, and factors that bar any."""

from cornersteps.rules import last_beside
from cornersteps.stands import rows_left, sign_of_pairs
from cornersteps.tables import plain, so_many_times


def back(table):
    """The square table's BACK over its CORNER, or FACTORS that bar any."""
    many = len(table)
    stand = last_beside(table, plain(many), "first")
    left = rows_left(stand)
    if len(left) > 0:
        return ("none", stand[2][left[0]][many:])
    return back_shown(stand)


def back_shown(stand):
    """The BACK that a last stand shows, the table and the plain one side by side, all rows in pairs."""
    picked, under, numbers = stand
    many = len(numbers)
    # The under is the corner with rows and columns in the order of the pairs; the sign puts them as they stand.
    sign = sign_of_pairs(picked)
    row_at = {column: row for row, column in picked}
    lines = [so_many_times(sign, numbers[row_at[column]][many:]) for column in range(many)]
    return ("back", tuple(lines), sign * under)

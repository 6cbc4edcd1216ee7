"""Rules that choose the next pair, and the steps by a rule."""

from cornersteps.stands import columns_left, first_stand, rows_left, stepped
from cornersteps.tables import beside

RULES = ("first", "least", "most")


def is_rule(thing):
    """Whether the thing is a RULE."""
    return isinstance(thing, str) and thing in RULES


def rows_to_pick(stand, column):
    """The rows in no pair that have another number than 0 in the column, rising."""
    return [row for row in rows_left(stand) if stand[2][row][column] != 0]


def row_by_rule(rows, sizes, rule):
    """The row that the rule takes, each row's size at the same place; the least of several."""
    if rule == "first":
        return rows[0]
    wanted = min(sizes) if rule == "least" else max(sizes)
    return rows[sizes.index(wanted)]


def next_pair(stand, rule, wide):
    """The next pair by the rule, of the first so many columns, or None."""
    for column in columns_left(stand):
        rows = rows_to_pick(stand, column)
        if column < wide and len(rows) > 0:
            sizes = [abs(stand[2][row][column]) for row in rows]
            return (row_by_rule(rows, sizes, rule), column)
    return None


def steps(table, rule, wide):
    """The STEPS of the table by the rule, of the first so many columns."""
    stand = first_stand(table)
    stands = [stand]
    pair = next_pair(stand, rule, wide)
    while pair is not None:
        stand = stepped(stand, pair[0], pair[1])
        stands.append(stand)
        pair = next_pair(stand, rule, wide)
    return tuple(stands)


def last_beside(table, other, rule):
    """The last of the STEPS of the table with the other one beside it, of the table's own columns."""
    return steps(beside(table, other), rule, len(table[0]))[-1]

"""Rules that choose the next pair, and the steps by a rule."""

from cornersteps.stands import columns_of, first_stand, rows_of, stepped

RULES = ("first", "least", "most")


def is_rule(thing):
    """Whether the thing is a RULE."""
    return isinstance(thing, str) and thing in RULES


def rows_left(stand, column):
    """The rows in no pair that have another number than 0 in the column, rising."""
    picked_rows = rows_of(stand[0])
    numbers = stand[2]
    return [row for row in range(len(numbers)) if row not in picked_rows and numbers[row][column] != 0]


def row_by_rule(rows, sizes, rule):
    """The row that the rule takes, each row's size at the same place; the least of several."""
    if rule == "first":
        return rows[0]
    wanted = min(sizes) if rule == "least" else max(sizes)
    return rows[sizes.index(wanted)]


def next_pair(stand, rule, wide):
    """The next pair by the rule, of the first so many columns, or None."""
    picked_columns = columns_of(stand[0])
    for column in range(wide):
        if column not in picked_columns:
            rows = rows_left(stand, column)
            if len(rows) > 0:
                sizes = [abs(stand[2][row][column]) for row in rows]
                return (row_by_rule(rows, sizes, rule), column)
    return None


def steps(table, rule, wide):
    """The STEPS of the table by the rule, of the first so many columns."""
    stand = first_stand(table)
    stands = [stand]
    pair = next_pair(stand, rule, wide)
    while pair is not None:
        stand = stepped(stand, pair[0], pair[1])
        stands.append(stand)
        pair = next_pair(stand, rule, wide)
    return tuple(stands)

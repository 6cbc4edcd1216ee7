"""Rules that choose the next pair, and the steps by a rule."""

from cornersteps.stands import columns_left, first_stand, rows_left, stepped
from cornersteps.tables import beside

RULES = ("first", "least", "most")


def is_rule(thing):
    """Whether the thing is a RULE."""
    return isinstance(thing, str) and thing in RULES


def rows_to_pick(stand, column, nought):
    """The rows in no pair that have another number than the nought in the column, rising."""
    return [row for row in rows_left(stand) if stand[2][row][column] != nought]


def row_by_rule(rows, sizes, rule):
    """The row that the rule takes, each row's size at the same place; the least of several."""
    wanted = min(sizes) if rule == "least" else max(sizes)
    return rows[sizes.index(wanted)]


def first_pair(stand, wide, nought):
    """The next pair by "first", of the first so many columns, or None."""
    for column in columns_left(stand):
        rows = rows_to_pick(stand, column, nought)
        if column < wide and len(rows) > 0:
            return (rows[0], column)
    return None


def next_pair(stand, rule, wide):
    """The next pair by the rule, of the first so many columns, or None."""
    pair = first_pair(stand, wide, 0)
    if pair is None or rule == "first":
        return pair
    column = pair[1]
    rows = rows_to_pick(stand, column, 0)
    sizes = [abs(stand[2][row][column]) for row in rows]
    return (row_by_rule(rows, sizes, rule), column)


def steps(table, rule, wide):
    """The STEPS of the table by the rule, of the first so many columns."""
    return steps_from(first_stand(table), lambda stand: next_pair(stand, rule, wide), stepped)


def steps_from(stand, pair_of, step_at):
    """The stand, and behind each one the stand behind a step at its next pair, till there is none."""
    stands = [stand]
    pair = pair_of(stand)
    while pair is not None:
        stand = step_at(stand, pair[0], pair[1])
        stands.append(stand)
        pair = pair_of(stand)
    return tuple(stands)


def last_beside(table, other, rule):
    """The last of the STEPS of the table with the other one beside it, of the table's own columns."""
    return steps(beside(table, other), rule, len(table[0]))[-1]

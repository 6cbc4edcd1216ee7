"""Ranks of tables, papers that show them, and the relations of a table's rows."""

from cornersteps.rules import last_beside, steps
from cornersteps.stands import rows_left
from cornersteps.tables import plain


def rank(table):
    """The RANK of the table."""
    return len(rank_paper(table, "first")[-1][0])


def rank_paper(table, rule):
    """The table's STEPS by the rule, of all columns."""
    return steps(table, rule, len(table[0]))


def relations(table, rule):
    """The RELATIONS of the table by the rule, one for each row in no pair, rising."""
    stand = last_beside(table, plain(len(table)), rule)
    return tuple([stand[2][row][len(table[0]):] for row in rows_left(stand)])

"""Papers that show a square table's corner."""

from cornersteps.cornerchecker import corner_shown
from cornersteps.rules import steps


def corner_paper(table, rule):
    """The square table's CORNER, and its STEPS by the rule, of all columns."""
    paper = steps(table, rule, len(table))
    return (corner_shown(paper[-1]), paper)

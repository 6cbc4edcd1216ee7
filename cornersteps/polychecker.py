"""Looks at papers of steps of tables of polynomials, by multiplying alone."""

from cornersteps.polys import is_poly, poly_times
from cornersteps.polysteps import first_poly_stand, poly_crosswise
from cornersteps.stands import is_form_of
from cornersteps.stepchecker import lets_paper


def lets_poly_steps(table, thing):
    """True of a PAPER OF STEPS of the table of polys; else refused with what is amiss first."""
    return lets_paper(
        first_poly_stand(table), (), lambda stand: is_form_of(is_poly, table, stand), is_poly_line_behind, thing
    )


def is_poly_line_behind(line, line_ahead, picked_line, column, under):
    """Whether the line is what a step at the picked row and the column makes of the one ahead."""
    return [poly_times(under, poly) for poly in line] == poly_crosswise(line_ahead, picked_line, column)

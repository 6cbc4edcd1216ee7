"""Tables of polynomials, their stands and steps, and what becomes of them at a whole number."""

from cornersteps.polys import is_poly, poly_minus, poly_over, poly_times, value_at
from cornersteps.rules import first_pair, steps_from
from cornersteps.stands import step_made
from cornersteps.tables import is_table_of

NOUGHT = ()
ONE = (1,)
FARTHEST = 20


def is_poly_table(thing):
    """Whether the thing is a TABLE OF POLYS."""
    return is_table_of(is_poly, thing)


def first_poly_stand(table):
    """The first STAND of the table of polys."""
    return ((), ONE, table)


def poly_crosswise(line, picked_line, column):
    """The picked row's poly in the column times the line, less the line's there times the picked row."""
    new_under = picked_line[column]
    factor = line[column]
    return [
        poly_minus(poly_times(new_under, poly), poly_times(factor, other)) for poly, other in zip(line, picked_line)
    ]


def poly_line_behind(line, picked_line, column, under):
    """What a step at the picked row and the column puts in the place of another row."""
    # Corners crosswise come out even here as they do with whole numbers (point 6).
    return tuple([poly_over(poly, under) for poly in poly_crosswise(line, picked_line, column)])


def poly_stepped(stand, row, column):
    """The STAND behind a step at the row and the column."""
    return step_made(stand, row, column, NOUGHT, poly_line_behind)


def poly_steps(table, wide):
    """The STEPS of the table of polys, of the first so many columns, by "first"."""
    return steps_from(first_poly_stand(table), lambda stand: first_pair(stand, wide, NOUGHT), poly_stepped)


def falls(table):
    """The FALLS of the table of polys: where an under comes to 0, and the place of the first such stand."""
    unders = [stand[1] for stand in poly_steps(table, len(table[0]))]
    told = []
    for number in range(-FARTHEST, FARTHEST + 1):
        values = [value_at(under, number) for under in unders]
        if 0 in values:
            told.append((number, values.index(0)))
    return told


def table_at(table, number):
    """The TABLE of the polys' values at the number."""
    return tuple([tuple([value_at(poly, number) for poly in row]) for row in table])


def stand_at(stand, number):
    """The stand of polys put at the number; no STAND where its under comes to 0."""
    picked, under, numbers = stand
    return (picked, value_at(under, number), table_at(numbers, number))

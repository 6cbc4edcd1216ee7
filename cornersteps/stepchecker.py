"""Looks at papers of steps, by multiplying alone."""

from cornersteps.errors import NoPaper
from cornersteps.stands import crosswise, first_stand, is_form


def lets_steps(table, thing):
    """True of a PAPER OF STEPS of the table; else refused with what is amiss first."""
    return lets_paper(first_stand(table), 0, lambda stand: is_form(table, stand), is_line_behind, thing)


def lets_paper(first, nought, has_form, has_line, thing):
    """True of a paper that begins with the first stand; has_form looks at a thing, has_line at a row of it."""
    if not isinstance(thing, tuple) or len(thing) == 0:
        raise NoPaper("shape", -1)
    for place, stand in enumerate(thing):
        if not has_form(stand):
            raise NoPaper("shape", place)
        if place == 0:
            look_at_first(first, stand)
        else:
            look_at_next(thing[place - 1], stand, place, nought, has_line)
    return True


def look_at_first(first, stand):
    """Refuses what is of the form but not the first stand."""
    if stand[0] != first[0]:
        raise NoPaper("pick", 0)
    if stand[1] != first[1]:
        raise NoPaper("under", 0)
    if stand[2] != first[2]:
        raise NoPaper("numbers", 0)


def look_at_next(ahead, stand, place, nought, has_line):
    """Refuses what is of the form but not the stand behind a step of the one ahead."""
    picked, under, numbers = stand
    if len(picked) != len(ahead[0]) + 1 or picked[:-1] != ahead[0]:
        raise NoPaper("pick", place)
    # The form tells that the last pair's row and column are in no pair ahead.
    row, column = picked[-1]
    new_under = ahead[2][row][column]
    if new_under == nought:
        raise NoPaper("pick", place)
    if under != new_under:
        raise NoPaper("under", place)
    if not are_numbers_behind(ahead, numbers, row, column, has_line):
        raise NoPaper("numbers", place)


def are_numbers_behind(ahead, numbers, row, column, has_line):
    """Whether the numbers are those behind a step at the row and the column."""
    under, numbers_ahead = ahead[1], ahead[2]
    picked_line = numbers_ahead[row]
    for i, line in enumerate(numbers):
        if i == row:
            if line != picked_line:
                return False
        elif not has_line(line, numbers_ahead[i], picked_line, column, under):
            return False
    return True


def is_line_behind(line, line_ahead, picked_line, column, under):
    """Whether the line is what a step at the picked row and the column makes of the one ahead."""
    return [under * number for number in line] == crosswise(line_ahead, picked_line, column)

"""Looks at papers of steps, by multiplying alone."""

from cornersteps.errors import NoPaper
from cornersteps.stands import crosswise, first_stand, is_form


def lets_steps(table, thing):
    """True of a PAPER OF STEPS of the table; else refused with what is amiss first."""
    if not isinstance(thing, tuple) or len(thing) == 0:
        raise NoPaper("shape", -1)
    for place, stand in enumerate(thing):
        if not is_form(table, stand):
            raise NoPaper("shape", place)
        if place == 0:
            look_at_first(table, stand)
        else:
            look_at_next(thing[place - 1], stand, place)
    return True


def look_at_first(table, stand):
    """Refuses what is of the form but not the FIRST STAND."""
    picked, under, numbers = first_stand(table)
    if stand[0] != picked:
        raise NoPaper("pick", 0)
    if stand[1] != under:
        raise NoPaper("under", 0)
    if stand[2] != numbers:
        raise NoPaper("numbers", 0)


def look_at_next(ahead, stand, place):
    """Refuses what is of the form but not the STAND behind a step of the one ahead."""
    picked, under, numbers = stand
    if len(picked) != len(ahead[0]) + 1 or picked[:-1] != ahead[0]:
        raise NoPaper("pick", place)
    # The form tells that the last pair's row and column are in no pair ahead.
    row, column = picked[-1]
    new_under = ahead[2][row][column]
    if new_under == 0:
        raise NoPaper("pick", place)
    if under != new_under:
        raise NoPaper("under", place)
    if not are_numbers_behind(ahead, numbers, row, column):
        raise NoPaper("numbers", place)


def are_numbers_behind(ahead, numbers, row, column):
    """Whether the numbers are those behind a step at the row and the column."""
    under, numbers_ahead = ahead[1], ahead[2]
    for i, line in enumerate(numbers):
        if i == row:
            if line != numbers_ahead[i]:
                return False
        elif [under * number for number in line] != crosswise(numbers_ahead[i], numbers_ahead[row], column):
            return False
    return True

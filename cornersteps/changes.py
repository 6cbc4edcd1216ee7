"""What a row in the place of another one does to a square table's corner and back."""

from cornersteps.backs import back
from cornersteps.stands import crosswise
from cornersteps.tables import led_through, products_summed, with_row


def corner_changed(told, place, row):
    """The CORNER of the table whose back was told, with the row at the place."""
    # The back has the corners without the row at the place, signed, in its column there.
    return products_summed(row, [line[place] for line in told[1]])


def back_changed(table, told, place, row):
    """What back tells of the table with the row at the place, by the back that was told of the table."""
    new_under = corner_changed(told, place, row)
    if new_under == 0:
        return back(with_row(table, place, row))
    led = led_through(row, told[1])
    lines = [line_changed(line, led, place, told[2]) for line in told[1]]
    return ("back", tuple(lines), new_under)


def line_changed(line, led, place, under):
    """A row of the back behind the change; led is the new row led through the back, under the old corner."""
    # Corners crosswise again, so the division comes out even; at the place the changed row had no part.
    changed = [number // under for number in crosswise(line, led, place)]
    changed[place] = line[place]
    return tuple(changed)

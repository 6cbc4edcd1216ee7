"""Keepers: a table whose rows are changed, put in and taken out, and its steps."""

from cornersteps.errors import NoPlace, TooMany
from cornersteps.rules import steps

MOST_ROWS = 8


def row_behind(row, place, gone, come):
    """The number of a row behind a deed by which so many rows went at the place and so many came; None if it went."""
    if row < place:
        return row
    if row < place + gone:
        return None
    return row - gone + come


class Keeper:
    """Keeps a TABLE, its STEPS by a RULE, and the deeds that stand."""

    def __init__(self, table, rule):
        self.rows = table
        self.rule = rule
        self.paper = steps(table, rule, len(table[0]))
        # Of each deed that stands, the contrary one, the last behind.
        self.contraries = []

    def table(self):
        """The TABLE as it stands."""
        return self.rows

    def stands(self):
        """The STEPS of the TABLE by the RULE, of all columns."""
        return self.paper

    def change(self, place, row):
        """Puts the row in the place of the one there; tells what is KEPT."""
        self.refuse_no_row(place)
        return self.done(place, 1, (row,))

    def put(self, place, row):
        """Puts the row in ahead of the one at the place; tells what is KEPT."""
        many = len(self.rows)
        if many >= MOST_ROWS:
            raise TooMany("rows")
        if place < 0 or place > many:
            raise NoPlace(place)
        return self.done(place, 0, (row,))

    def take(self, place):
        """Takes out the row at the place; tells what is KEPT."""
        self.refuse_no_row(place)
        if len(self.rows) == 1:
            raise NoPlace(place)
        return self.done(place, 1, ())

    def undo(self):
        """Does the contrary of the last deed that stands; tells what is KEPT."""
        if len(self.contraries) == 0:
            raise NoPlace(-1)
        place, gone, come = self.contraries.pop()
        return self.replaced(place, gone, come)

    def refuse_no_row(self, place):
        """Refuses a place at which no row stands."""
        if place < 0 or place >= len(self.rows):
            raise NoPlace(place)

    def done(self, place, gone, come):
        """Does a deed that stands till it is undone; tells what is KEPT."""
        self.contraries.append((place, len(come), self.rows[place:place + gone]))
        return self.replaced(place, gone, come)

    def replaced(self, place, gone, come):
        """Puts the rows that come in the place of so many that go; tells what is KEPT."""
        ahead = self.paper[-1][0]
        self.rows = self.rows[:place] + come + self.rows[place + gone:]
        self.paper = steps(self.rows, self.rule, len(self.rows[0]))
        many = 0
        for (row, column), pair in zip(ahead, self.paper[-1][0]):
            # A row that came has a number that none from ahead has, and one that went has none: both end it.
            if (row_behind(row, place, gone, len(come)), column) != pair:
                return many
            many += 1
        return many

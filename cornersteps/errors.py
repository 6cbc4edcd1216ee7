"""The refusals. Each keeps the very things that it was made of and looks at none of them."""


class CornerError(ValueError):
    """Any refusal."""


class NoStep(CornerError):
    """No step can be made at this row and column."""

    def __init__(self, row, column):
        super().__init__("no step can be made there")
        self.row = row
        self.column = column


class NoPaper(CornerError):
    """A paper is not let by: what is amiss, and where first."""

    def __init__(self, word, place):
        super().__init__("the paper is not let by")
        self.word = word
        self.place = place


class NoBack(CornerError):
    """The prime divides the number."""

    def __init__(self, number, prime):
        super().__init__("the prime divides the number")
        self.number = number
        self.prime = prime


class NoPlace(CornerError):
    """There is no such place, or its row can not go."""

    def __init__(self, place):
        super().__init__("there is no such place")
        self.place = place


class TooMany(CornerError):
    """There would be more than are kept."""

    def __init__(self, word):
        super().__init__("there would be too many")
        self.word = word


class NoQuotient(CornerError):
    """No polynomial times the other one is the one."""

    def __init__(self, one, other):
        super().__init__("the division does not come out even")
        self.one = one
        self.other = other


class NoText(CornerError):
    """A text writes no table: the first row and word amiss."""

    def __init__(self, row, word):
        super().__init__("the text writes no table")
        self.row = row
        self.word = word


class NoLine(CornerError):
    """A line that the desk does not know."""

    def __init__(self, line):
        super().__init__("the desk knows no such line")
        self.line = line

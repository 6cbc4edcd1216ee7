"""Tables written as texts, and read from them."""

from cornersteps.errors import NoText

FIGURES = "0123456789"
MOST_FIGURES = 400


def shown_table(table):
    """The text that writes the table."""
    return "; ".join([" ".join([str(number) for number in row]) for row in table])


def read_table(text):
    """The TABLE that the text writes."""
    rows = [row.split(" ") for row in text.split("; ")]
    many = len(rows[0])
    return tuple([row_read(at, words, many) for at, words in enumerate(rows)])


def row_read(at, words, many):
    """The ROW that the words of row at write, so many of them as row 0 has."""
    numbers = []
    for place, word in enumerate(words):
        number = number_read(word, MOST_FIGURES)
        if number is None or place >= many:
            raise NoText(at, place)
        numbers.append(number)
    if len(words) < many:
        raise NoText(at, len(words))
    return tuple(numbers)


def number_read(word, most):
    """The whole number that the word writes with at most so many figures, or None."""
    figures = word[1:] if word.startswith("-") else word
    if len(figures) == 0 or len(figures) > most or not all([sign in FIGURES for sign in figures]):
        return None
    if figures.startswith("0") and word != "0":
        return None
    return int(word)


def numbers_shown(numbers):
    """The numbers' text, parted by commas."""
    return ",".join([str(number) for number in numbers])


def numbers_read(word, most):
    """The whole numbers, of at most so many figures, that the word writes, parted by commas, or None."""
    numbers = [number_read(part, most) for part in word.split(",")]
    if None in numbers:
        return None
    return tuple(numbers)

"""A desk that keeps tables by names and answers lines."""

from cornersteps.answerchecker import lets_answer
from cornersteps.answers import answered
from cornersteps.backs import back
from cornersteps.cornerpapers import corner_paper
from cornersteps.errors import NoLine, NoPaper, NoText, TooMany
from cornersteps.misled import rank_by
from cornersteps.primes import is_prime
from cornersteps.ranks import rank
from cornersteps.rules import is_rule, steps
from cornersteps.tables import exchanged, times, turned, with_row
from cornersteps.texts import number_read, numbers_read, numbers_shown, read_table, shown_table

LETTERS = "abcdefghijklmnopqrstuvwxyz"
LONGEST_NAME = 6
MOST_ROWS = 5
MOST_COLUMNS = 6
GREATEST = 999999999999
# NUMBERS have fewer figures than what "check" looks at.
MOST_FIGURES = 12
MOST_CHECKED = 400


def is_name(word):
    """Whether the word is a NAME."""
    return 1 <= len(word) <= LONGEST_NAME and all([sign in LETTERS for sign in word])


def is_too_great(table):
    """Whether the table is one that a desk does not keep."""
    if len(table) > MOST_ROWS or len(table[0]) > MOST_COLUMNS:
        return True
    return any([abs(number) > GREATEST for row in table for number in row])


class Line:
    """A line's words, each read as what has to stand there; where it can't be, the line is refused."""

    def __init__(self, text, tables):
        self.text = text
        self.words = text.split(" ")
        self.tables = tables

    def need(self, holds):
        """Refuses the line where this does not hold."""
        if not holds:
            raise NoLine(self.text)

    def need_words(self, many):
        """Refuses the line where it has another number of words."""
        self.need(len(self.words) == many)

    def name_at(self, at):
        """The NAME there, kept or not."""
        self.need(is_name(self.words[at]))
        return self.words[at]

    def kept_at(self, at):
        """The TABLE that is kept by the name there."""
        self.need(self.words[at] in self.tables)
        return self.tables[self.words[at]]

    def square_at(self, at):
        """The SQUARE TABLE that is kept by the name there."""
        table = self.kept_at(at)
        self.need(len(table) == len(table[0]))
        return table

    def number_at(self, at):
        """The whole number there."""
        number = number_read(self.words[at], MOST_CHECKED)
        self.need(number is not None)
        return number

    def row_at(self, at, table):
        """The number there, of a row of the table."""
        number = self.number_at(at)
        self.need(0 <= number < len(table))
        return number

    def numbers_at(self, at, most):
        """The whole numbers there, each of at most so many figures."""
        numbers = numbers_read(self.words[at], most)
        self.need(numbers is not None)
        return numbers

    def side_at(self, at, many):
        """The NUMBERS there, so many of them."""
        numbers = self.numbers_at(at, MOST_FIGURES)
        self.need(len(numbers) == many)
        return numbers

    def written_from(self, at):
        """The TABLE that all words from there on write."""
        try:
            return read_table(" ".join(self.words[at:]))
        except NoText:
            raise NoLine(self.text) from None


def keep(line, table):
    """Keeps the table by the line's first name, once all else of the line is read."""
    name = line.name_at(1)
    if is_too_great(table):
        raise TooMany("table")
    line.tables[name] = table
    return "ok"


def say_table(line):
    """table NAME : TEXT"""
    line.need(len(line.words) > 3 and line.words[2] == ":")
    return keep(line, line.written_from(3))


def say_names(line):
    """names"""
    line.need_words(1)
    return joined(sorted(line.tables))


def joined(words):
    """The words parted by blanks, a - of none."""
    return " ".join(words) if len(words) > 0 else "-"


def say_show(line):
    """show NAME"""
    line.need_words(2)
    return shown_table(line.kept_at(1))


def say_drop(line):
    """drop NAME"""
    line.need_words(2)
    line.need(line.words[1] in line.tables)
    del line.tables[line.words[1]]
    return "ok"


def say_turned(line):
    """turned NEW NAME"""
    line.need_words(3)
    return keep(line, turned(line.kept_at(2)))


def say_exchanged(line):
    """exchanged NEW NAME I J"""
    line.need_words(5)
    table = line.kept_at(2)
    return keep(line, exchanged(table, line.row_at(3, table), line.row_at(4, table)))


def say_times(line):
    """times NEW NAME OTHER"""
    line.need_words(4)
    one, other = line.kept_at(2), line.kept_at(3)
    line.need(len(one[0]) == len(other))
    return keep(line, times(one, other))


def say_changed(line):
    """changed NEW NAME I NUMBERS"""
    line.need_words(5)
    table = line.kept_at(2)
    return keep(line, with_row(table, line.row_at(3, table), line.side_at(4, len(table[0]))))


def say_without(line):
    """without NEW NAME I"""
    line.need_words(4)
    table = line.kept_at(2)
    place = line.row_at(3, table)
    line.need(len(table) > 1)
    return keep(line, table[:place] + table[place + 1:])


def say_corner(line):
    """corner NAME"""
    line.need_words(2)
    return str(corner_paper(line.square_at(1), "first")[0])


def say_rank(line):
    """rank NAME, or rank NAME PRIME"""
    line.need(len(line.words) in (2, 3))
    table = line.kept_at(1)
    if len(line.words) == 2:
        return str(rank(table))
    prime = line.number_at(2)
    line.need(is_prime(prime))
    return str(rank_by(table, prime))


def say_steps(line):
    """steps NAME RULE"""
    line.need_words(3)
    table = line.kept_at(1)
    rule = line.words[2]
    line.need(is_rule(rule))
    picked, under, numbers = steps(table, rule, len(table[0]))[-1]
    pairs = joined([numbers_shown(pair) for pair in picked])
    return f"{pairs} : {under}"


def say_answer(line):
    """answer NAME NUMBERS"""
    line.need_words(3)
    table = line.kept_at(1)
    told = answered(table, line.side_at(2, len(table)), "first")
    if told[0] == "none":
        return factors_shown(told)
    return f"over {told[2]} : {numbers_shown(told[1])}"


def say_back(line):
    """back NAME"""
    line.need_words(2)
    told = back(line.square_at(1))
    if told[0] == "none":
        return factors_shown(told)
    return f"over {told[2]} : {shown_table(told[1])}"


def factors_shown(told):
    """The text of factors that bar."""
    return f"none : {numbers_shown(told[1])}"


def say_check(line):
    """check NAME NUMBERS over UNDER : TOPS, or check NAME NUMBERS none : FACTORS"""
    line.need(len(line.words) > 3)
    table = line.kept_at(1)
    right = line.side_at(2, len(table))
    thing = thing_to_check(line)
    try:
        lets_answer(table, right, thing)
    except NoPaper:
        return "no"
    return "yes"


def thing_to_check(line):
    """The answer, or the factors, that a line to check tells."""
    if line.words[3] == "over":
        line.need_words(7)
        line.need(line.words[5] == ":")
        return ("answer", line.numbers_at(6, MOST_CHECKED), line.number_at(4))
    line.need_words(6)
    line.need(line.words[3:5] == ["none", ":"])
    return ("none", line.numbers_at(5, MOST_CHECKED))


ACTIONS = {
    "table": say_table, "names": say_names, "show": say_show, "drop": say_drop, "turned": say_turned,
    "exchanged": say_exchanged, "times": say_times, "changed": say_changed, "without": say_without,
    "corner": say_corner, "rank": say_rank, "steps": say_steps, "answer": say_answer, "back": say_back,
    "check": say_check,
}


class Desk:
    """Keeps TABLES by NAMES, at first none."""

    def __init__(self):
        self.tables = {}

    def say(self, line):
        """The answer to the line."""
        asked = Line(line, self.tables)
        asked.need(asked.words[0] in ACTIONS)
        action = ACTIONS[asked.words[0]]
        return action(asked)

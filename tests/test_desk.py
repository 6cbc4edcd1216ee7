import random
import unittest

from oracle import (
    BIG, MANY_TABLES, RULES, adjoined, by_prime, last_told, numbers_table, rank_told, stand_told, whole_corner,
)
from cornersteps.answerchecker import lets_answer
from cornersteps.answers import answered
from cornersteps.backchecker import lets_back
from cornersteps.desk import Desk
from cornersteps.errors import CornerError, NoLine, NoText, TooMany

SMALL = [table for table in MANY_TABLES if len(table) <= 5 and len(table[0]) <= 6]
NINES = "9" * 12


def written(table):
    return "; ".join(" ".join(str(number) for number in row) for row in table)


def commas(numbers):
    return ",".join(str(number) for number in numbers)


def desk_with(**texts):
    desk = Desk()
    for name, text in texts.items():
        assert desk.say(f"table {name} : {text}") == "ok"
    return desk


def kept_by(desk):
    """All names and their texts."""
    names = desk.say("names")
    return {} if names == "-" else {name: desk.say("show " + name) for name in names.split(" ")}


class DeskCase(unittest.TestCase):
    def refused(self, desk, line):
        ahead = kept_by(desk)
        for _ in range(2):
            with self.assertRaises(NoLine, msg=line) as caught:
                desk.say(line)
            error = caught.exception
            self.assertIs(NoLine, type(error))
            self.assertIsInstance(error, CornerError)
            self.assertNotIsInstance(error, NoText)
            self.assertIs(line, error.line)
        self.assertEqual(ahead, kept_by(desk))

    def too_many(self, desk, line):
        ahead = kept_by(desk)
        for _ in range(2):
            with self.assertRaises(TooMany, msg=line) as caught:
                desk.say(line)
            self.assertIs(TooMany, type(caught.exception))
            self.assertEqual("table", caught.exception.word)
        self.assertEqual(ahead, kept_by(desk))

    def told(self, desk, line, answer):
        """An answer that changes nothing, asked twice."""
        ahead = kept_by(desk)
        for _ in range(2):
            told = desk.say(line)
            self.assertIs(str, type(told))
            self.assertEqual(answer, told, line)
        self.assertEqual(ahead, kept_by(desk))


class KeepingTest(DeskCase):
    def test_names_show_and_drop(self):
        desk = Desk()
        self.told(desk, "names", "-")
        self.assertEqual("ok", desk.say("table b : 1 2; 3 4"))
        self.told(desk, "names", "b")
        self.assertEqual("ok", desk.say("table ab : -5"))
        self.assertEqual("ok", desk.say("table zzzzzz : 0 0"))
        self.told(desk, "names", "ab b zzzzzz")
        self.told(desk, "show b", "1 2; 3 4")
        self.told(desk, "show ab", "-5")
        self.assertEqual("ok", desk.say("drop ab"))
        self.told(desk, "names", "b zzzzzz")
        self.refused(desk, "show ab")
        self.refused(desk, "drop ab")
        self.assertEqual("ok", desk.say("table b : 7"))
        self.told(desk, "show b", "7")
        self.assertEqual(["ok", "ok"], [desk.say("drop b"), desk.say("drop zzzzzz")])
        self.told(desk, "names", "-")

    def test_what_is_kept_and_shown(self):
        desk = Desk()
        for table in SMALL:
            self.assertEqual("ok", desk.say("table t : " + written(table)))
            self.told(desk, "show t", written(table))

    def test_names(self):
        desk = Desk()
        for name in ("a", "z", "abcdef", "zzzzzz", "mn"):
            self.assertEqual("ok", desk.say(f"table {name} : 1"))
        for name in ("", "abcdefg", "A", "aB", "a1", "1", "a-", "-", "a_b", "_", "a.", ":", "a;", "~", "{", "`", "@", "["):
            self.refused(desk, f"table {name} : 1")
            self.refused(desk, f"show {name}")
            self.refused(desk, f"drop {name}")
            self.refused(desk, f"turned {name} a")
            self.refused(desk, f"turned b {name}")

    def test_names_that_are_words_of_lines(self):
        words = ("table", "names", "show", "drop", "turned", "times", "corner", "rank", "steps", "answer", "back",
                 "check", "first", "least", "most", "over", "none", "ok", "yes", "no")
        desk = Desk()
        for word in words:
            self.assertEqual("ok", desk.say(f"table {word} : 1 2; 3 4"))
        self.told(desk, "names", " ".join(sorted(words)))
        for word in words:
            self.told(desk, "show " + word, "1 2; 3 4")
            self.told(desk, "corner " + word, "-2")
            self.assertEqual("ok", desk.say(f"turned {word} {word}"))
            self.told(desk, "show " + word, "1 3; 2 4")
        self.told(desk, "steps first first", "0,0 1,1 : -2")
        self.told(desk, "check over 1,0 over -2 : 4,-2", "yes")
        self.told(desk, "rank rank 2", "1")
        self.assertEqual("ok", desk.say("drop drop"))
        self.refused(desk, "drop drop")
        # Words of lines that are too long are no names.
        self.refused(desk, "table without : 1")
        self.refused(desk, "table exchanged : 1")

    def test_texts_that_are_no_tables(self):
        desk = desk_with(a="1")
        texts = ["", " ", "x", "1 2; 3", "1; 2 3", "1;2", "1 ", " 1", "1  2", "01", "+1", "-0", "1; ", "; 1", "1,2",
                 "7" * 401, "1 -" + "7" * 401, "1;", "a"]
        for text in texts:
            self.refused(desk, "table a : " + text)
            self.refused(desk, "table b : " + text)

    def test_tables_that_are_not_kept(self):
        desk = desk_with(a="5")
        six_rows, seven_columns = written(((1,),) * 6), written(((1,) * 7,))
        for text in (six_rows, seven_columns, "1" + "0" * 12, "-1" + "0" * 12, "1 2; 3 " + "9" * 13, "7" * 400,
                     "1; 2; 3; -" + "7" * 400, written(((1,) * 7,) * 6), written(((0,),) * 1000)):
            self.too_many(desk, "table a : " + text)
            self.too_many(desk, "table b : " + text)
            # The line is none, so the table is not looked at.
            self.refused(desk, "table B : " + text)
            self.refused(desk, "table b :" + text)
            self.refused(desk, "table b : " + text + " ")
        for text in (written(((1,) * 6,) * 5), NINES, "-" + NINES, "1 -" + NINES):
            self.assertEqual("ok", desk.say("table b : " + text))
            self.told(desk, "show b", text)

    def test_two_desks_know_nothing_of_each_other(self):
        one, other = Desk(), Desk()
        one.say("table a : 1 2; 3 4")
        self.told(other, "names", "-")
        self.refused(other, "show a")
        other.say("table a : 9")
        one.say("table b : 8")
        self.told(one, "show a", "1 2; 3 4")
        self.told(other, "names", "a")
        other.say("drop a")
        self.told(one, "names", "a b")


class MakingTest(DeskCase):
    def made(self, desk, line, name, text):
        """The line keeps the text by the name and leaves all others as they were."""
        wanted = {**kept_by(desk), name: text}
        self.assertEqual("ok", desk.say(line))
        self.assertEqual(wanted, kept_by(desk))

    def test_turned(self):
        desk = desk_with(a="1 2 3; 4 5 6")
        self.made(desk, "turned b a", "b", "1 4; 2 5; 3 6")
        self.made(desk, "turned a a", "a", "1 4; 2 5; 3 6")
        self.made(desk, "turned b a", "b", "1 2 3; 4 5 6")
        desk = desk_with(wide="1 2 3 4 5 6", five="1 2 3 4 5", a="1")
        self.too_many(desk, "turned b wide")
        self.too_many(desk, "turned wide wide")
        self.too_many(desk, "turned a wide")
        self.refused(desk, "turned B wide")
        self.made(desk, "turned b five", "b", "1; 2; 3; 4; 5")

    def test_exchanged(self):
        desk = desk_with(a="1 2; 3 4; 5 6")
        self.made(desk, "exchanged b a 0 2", "b", "5 6; 3 4; 1 2")
        self.made(desk, "exchanged b a 2 1", "b", "1 2; 5 6; 3 4")
        self.made(desk, "exchanged c a 1 1", "c", "1 2; 3 4; 5 6")
        self.made(desk, "exchanged a a 0 1", "a", "3 4; 1 2; 5 6")
        for i, j in [("3", "0"), ("0", "3"), ("-1", "0"), ("0", "-1"), ("00", "1"), ("01", "0"), ("+1", "0"), ("-0", "0"),
                     ("0", "-0"), ("x", "0"), ("0", ""), ("0,1", "0"), ("9" * 400, "0"), ("0", "9" * 4200), ("1.0", "0")]:
            self.refused(desk, f"exchanged b a {i} {j}")

    def test_times(self):
        desk = desk_with(a="1 2; 3 4", b="1 2 3; 4 5 6", c="7; 8; 9", big="1000000; 1", row="1000000 1", n="999999")
        self.made(desk, "times d a b", "d", "9 12 15; 19 26 33")
        self.made(desk, "times e b c", "e", "50; 122")
        self.made(desk, "times a a a", "a", "7 10; 15 22")
        for pair in ("b a", "c b", "b b", "a c", "c c"):
            self.refused(desk, "times f " + pair)
        self.too_many(desk, "times f big row")
        self.too_many(desk, "times a row big")
        self.refused(desk, "times f big big")
        self.refused(desk, "times F big row")
        self.made(desk, "times f n n", "f", "999998000001")
        self.made(desk, "times g row e", "g", "50000122")

    def test_changed(self):
        desk = desk_with(a="1 2; 3 4; 5 6", one="7")
        self.made(desk, "changed b a 1 8,-9", "b", "1 2; 8 -9; 5 6")
        self.made(desk, "changed a a 0 0,0", "a", "0 0; 3 4; 5 6")
        self.made(desk, f"changed a a 2 {NINES},-{NINES}", "a", f"0 0; 3 4; {NINES} -{NINES}")
        self.made(desk, "changed one one 0 -1", "one", "-1")
        for numbers in ("1", "1,2,3", "1,", ",1", "1,,2", "1;2", "01,2", "+1,2", "-0,2", "1,x", "", ",", "9" * 13 + ",1",
                        "1,-" + "9" * 13, "1,2,"):
            self.refused(desk, "changed b a 0 " + numbers)
        for place in ("3", "-1", "00", "+0", "-0", "", "x", "0,1"):
            self.refused(desk, f"changed b a {place} 1,2")

    def test_without(self):
        desk = desk_with(a="1 2; 3 4; 5 6", one="7 8")
        self.made(desk, "without b a 0", "b", "3 4; 5 6")
        self.made(desk, "without b a 1", "b", "1 2; 5 6")
        self.made(desk, "without b a 2", "b", "1 2; 3 4")
        self.made(desk, "without b b 1", "b", "1 2")
        for line in ("without c one 0", "without one one 0", "without c b 0", "without c a 3", "without c a -1",
                     "without c a 00", "without c a -0", "without c a +1", "without c a x", "without c a "):
            self.refused(desk, line)

    def test_names_that_are_not_kept(self):
        desk = desk_with(a="1 2; 3 4")
        for line in ("turned b c", "exchanged b c 0 1", "times b a c", "times b c a", "changed b c 0 1,2", "without b c 0",
                     "turned b b", "times b a b", "show b", "drop b", "corner b", "rank b", "rank b 2", "steps b first",
                     "answer b 1,2", "back b", "check b 1,2 over 1 : 1,2", "check b 1,2 none : 1,2"):
            self.refused(desk, line)


class TellingTest(DeskCase):
    def test_the_documents_own_examples(self):
        desk = desk_with(a="1 2; 3 4", e="1 0 -1; 1 0 1", t="0 0 -3; 2 7 1", z="0 0; 0 0")
        self.told(desk, "answer e 2,-1", "over 2 : 1,0,-3")
        self.told(desk, "back a", "over -2 : 4 -2; -3 1")
        self.told(desk, "steps t first", "1,0 0,2 : -6")
        self.told(desk, "steps z first", "- : 1")

    def test_corner(self):
        desk = desk_with(wide="1 2", tall="1; 2")
        for table in SMALL:
            desk.say("table t : " + written(table))
            if len(table) == len(table[0]):
                self.told(desk, "corner t", str(whole_corner(table)))
            else:
                self.refused(desk, "corner t")
        self.refused(desk, "corner wide")
        self.refused(desk, "corner tall")

    def test_rank(self):
        desk = Desk()
        for table in SMALL:
            desk.say("table t : " + written(table))
            self.told(desk, "rank t", str(rank_told(table)))
            for prime in (2, 3, 7, 9973):
                self.told(desk, f"rank t {prime}", str(rank_told(table, by_prime(prime))))
        for prime in ("0", "1", "4", "-2", "9", "9972", "9974", "10007", "02", "+2", "2.0", "", "x", "2,3", "-3", "1" * 400,
                      "3" * 401, "two"):
            self.refused(desk, "rank t " + prime)

    def test_steps(self):
        desk = Desk()
        for table in SMALL:
            desk.say("table t : " + written(table))
            for rule in RULES:
                picked, under, _ = last_told(table, rule, len(table[0]))
                self.assertEqual(stand_told(table, picked)[1], under)
                pairs = " ".join(f"{row},{column}" for row, column in picked) or "-"
                self.told(desk, "steps t " + rule, f"{pairs} : {under}")
        for rule in ("", "First", "second", "last", "firs", "first,", "1"):
            self.refused(desk, "steps t " + rule)

    def test_answer_and_check(self):
        desk = Desk()
        seen = set()
        for seed, table in enumerate(SMALL):
            chance = random.Random(seed)
            desk.say("table t : " + written(table))
            rows = [tuple(chance.choice((0, 1, -BIG, chance.randint(-9, 9))) for _ in table) for _ in range(4)]
            for right in rows + [(0,) * len(table), tuple(row[0] for row in table)]:
                told = answered(table, right, "first")
                self.assertIs(True, lets_answer(table, right, told))
                if told[0] == "answer":
                    answer = f"over {told[2]} : {commas(told[1])}"
                    off = f"over {told[2]} : {commas((told[1][0] + 1,) + told[1][1:])}"
                    off_table = any(row[0] for row in table)
                else:
                    answer = f"none : {commas(told[1])}"
                    off, off_table = f"none : {commas((0,) * len(table))}", True
                seen.add(told[0])
                self.told(desk, "answer t " + commas(right), answer)
                self.told(desk, f"check t {commas(right)} {answer}", "yes")
                if off_table:
                    self.told(desk, f"check t {commas(right)} {off}", "no")
        self.assertEqual({"answer", "none"}, seen)

    def test_numbers_of_answers_and_checks(self):
        desk = desk_with(a="1 2; 3 4")
        for numbers in ("", "1", "1,2,3", "1,", ",2", "1,,2", "1;2", "01,2", "+1,2", "-0,0", "x,1", "1.0,2", "9" * 13 + ",1"):
            self.refused(desk, "answer a " + numbers)
            self.refused(desk, f"check a {numbers} over 1 : 1,2")
            self.refused(desk, f"check a {numbers} none : 1,2")
        self.told(desk, f"answer a {NINES},-{NINES}", f"over -2 : {6 * int(NINES)},{-4 * int(NINES)}")

    def test_check(self):
        desk = desk_with(a="1 2; 2 4", b="1 2; 3 4")
        self.told(desk, "check b 5,6 over -2 : 8,-9", "yes")
        self.told(desk, "check b 5,6 over 2 : -8,9", "yes")
        self.told(desk, "check b 5,6 over 2 : 8,-9", "no")
        self.told(desk, "check b 5,6 over 0 : 0,0", "no")
        self.told(desk, "check b 5,6 over -2 : 8", "no")
        self.told(desk, "check b 5,6 over -2 : 8,-9,0", "no")
        self.told(desk, "check b 5,6 none : 1,1", "no")
        self.told(desk, "check a 1,3 none : -2,1", "yes")
        self.told(desk, "check a 1,3 none : 2,-1", "yes")
        self.told(desk, "check a 1,2 none : -2,1", "no")
        self.told(desk, "check a 1,3 none : -2", "no")
        self.told(desk, "check a 1,3 none : -2,1,0", "no")
        self.told(desk, "check a 1,3 none : 0,0", "no")
        self.told(desk, "check a 1,2 over 1 : 1,0", "yes")
        self.told(desk, "check a 1,2 over 1 : -1,1", "yes")
        great = "7" + "0" * 399
        self.told(desk, f"check a 1,2 over {great} : {great},0", "yes")
        self.told(desk, f"check a 1,2 over -{great} : -{great},0", "yes")
        self.told(desk, f"check a 1,3 none : -{2 * 10 ** 399},1{'0' * 399}", "yes")
        for under, tops in [("1", "1,"), ("1", ""), ("1", ",0"), ("1", "01,0"), ("1", "+1,0"), ("1", "-0,0"), ("1", "x,0"),
                            ("01", "1,0"), ("+1", "1,0"), ("-0", "1,0"), ("", "1,0"), ("x", "1,0"), ("1,1", "1,0"),
                            ("1" * 401, "1,0"), ("-" + "1" * 401, "1,0"), ("1", "1" * 401 + ",0"), ("1", "1;0")]:
            self.refused(desk, f"check a 1,2 over {under} : {tops}")
            if under == "1":
                self.refused(desk, f"check a 1,2 none : {tops}")

    def test_back(self):
        desk = Desk()
        for table in SMALL:
            desk.say("table t : " + written(table))
            if len(table) != len(table[0]):
                self.refused(desk, "back t")
                continue
            corner = whole_corner(table)
            if corner != 0:
                self.told(desk, "back t", f"over {corner} : {written(adjoined(table))}")
                continue
            told = desk.say("back t")
            self.assertTrue(told.startswith("none : "))
            factors = tuple(int(word) for word in told[7:].split(","))
            self.assertEqual("none : " + commas(factors), told)
            self.assertIs(True, lets_back(table, ("none", factors)))

    def test_greatest_tables(self):
        desk = Desk()
        table = numbers_table(281, 5, 5, 10 ** 12 - 1)
        desk.say("table t : " + written(table))
        self.told(desk, "corner t", str(whole_corner(table)))
        self.told(desk, "back t", f"over {whole_corner(table)} : {written(adjoined(table))}")
        under = whole_corner(table)
        tops = tuple(sum(a * b for a, b in zip(row, (1, 0, -1, 5, int(NINES)))) for row in adjoined(table))
        answer = desk.say(f"answer t 1,0,-1,5,{NINES}")
        self.assertEqual(f"over {under} : {commas(tops)}", answer)
        self.told(desk, f"check t 1,0,-1,5,{NINES} {answer}", "yes")


LINES = [
    "table a : 5 6; 7 8", "names", "show a", "drop a", "turned c a", "exchanged c a 0 1", "times c a b",
    "changed c a 0 1,2", "without c a 0", "corner a", "rank a", "rank a 3", "steps a first", "answer a 1,2", "back a",
    "check a 1,2 over -2 : 0,1", "check a 1,2 none : 1,1",
]


class NearMissTest(DeskCase):
    def prepared(self):
        return desk_with(a="1 2; 3 4", b="5 6; 7 8")

    def test_each_line_is_one(self):
        for line in LINES:
            self.assertIs(str, type(self.prepared().say(line)))

    def test_blanks(self):
        desk = self.prepared()
        for line in LINES:
            self.refused(desk, " " + line)
            self.refused(desk, line + " ")
            for at, sign in enumerate(line):
                if sign == " ":
                    self.refused(desk, line[:at] + " " + line[at:])

    def test_words_left_out_and_put_in(self):
        desk = self.prepared()
        lines = {*LINES, "table a : 5 7 8"}
        for line in LINES:
            words = line.split(" ")
            for at in range(len(words)):
                less = " ".join(words[:at] + words[at + 1:])
                if less not in lines:
                    self.refused(desk, less)
            for at in range(len(words) + 1):
                for word in (":", "x", "-", "over", "names"):
                    more = " ".join(words[:at] + [word] + words[at:])
                    self.refused(desk, more)
            if words[0] not in ("table", "rank"):
                self.refused(desk, line + " 2")

    def test_words_that_are_others(self):
        desk = self.prepared()
        for line in LINES:
            words = line.split(" ")
            for at, word in enumerate(words):
                for other in (word.upper() if word.upper() != word else "X", word + "X", "X" + word, "", "%", "names;"):
                    self.refused(desk, " ".join(words[:at] + [other] + words[at + 1:]))

    def test_lines_that_are_none(self):
        desk = self.prepared()
        lines = ["", " ", "x", "a", ":", "names a", "names :", "table", "table a", "table a :", "table a : ", "table : 1",
                 "table a 1 2", "table a: 1", "table a :1", "table a = 1", "show", "show a b", "drop", "drop a b", "drop all",
                 "turned", "turned c", "turned c a b", "exchanged c a", "exchanged c a 0", "times c a", "changed c a 0",
                 "changed c a 0 1 2", "changed c a 1,2", "without c a", "without c", "corner", "corner a b", "rank",
                 "rank a 2 3", "rank 2", "steps", "steps a", "steps first", "answer", "answer a", "answer a 1 2", "back",
                 "back a first", "check", "check a", "check a 1,2", "check a 1,2 over", "check a 1,2 over 1",
                 "check a 1,2 over 1 :", "check a 1,2 over 1 1,2", "check a 1,2 over : 1,2", "check a 1,2 none",
                 "check a 1,2 none :", "check a 1,2 none 1,2", "check a 1,2 none 1 : 1,2", "check a 1,2 back : 1,2",
                 "check a 1,2 over 1 : 1 2", "check a 1,2 over 1 ; 1,2", "check a 1,2 none ; 1,2", "check a over 1 : 1,2",
                 "check a 1,2 answer 1 : 1,2", "NAMES", "Names", "names\n", "names\t", "put c a", "ok", "-", "say names",
                 "keep a", "first", "x" * 4000, "rank a " + "2 " * 1900, "table a : " + "1 " * 1990]
        for line in lines:
            self.refused(desk, line)

    def test_no_line_goes_ahead_of_too_many(self):
        desk = desk_with(wide="1 2 3 4 5 6", big=NINES, tall="1; 2")
        self.refused(desk, "turned Wide wide")
        self.refused(desk, "turned toolong wide")
        self.refused(desk, "turned c wide 1")
        self.refused(desk, "times c big tall")
        self.refused(desk, "times c big bigger")
        self.too_many(desk, "times c big big")
        self.too_many(desk, "turned c wide")

    def test_methods_stand_in_the_class_itself(self):
        self.assertIn("say", vars(Desk))


if __name__ == "__main__":
    unittest.main()

import unittest

from oracle import BIG, MANY_TABLES, just_tuples, numbers_table, told_alike
from cornersteps.errors import CornerError, NoLine, NoText
from cornersteps.tables import beside
from cornersteps.texts import read_table, shown_table


class ShownTest(unittest.TestCase):
    def test_by_hand(self):
        self.assertEqual("1 2; 3 4", shown_table(((1, 2), (3, 4))))
        self.assertEqual("0", shown_table(((0,),)))
        self.assertEqual("-7", shown_table(((-7,),)))
        self.assertEqual("0 -1 20", shown_table(((0, -1, 20),)))
        self.assertEqual("5; -6; 0", shown_table(((5,), (-6,), (0,))))

    def test_great_numbers(self):
        self.assertEqual("9" * 400 + " -" + "9" * 400, shown_table(((10 ** 400 - 1, 1 - 10 ** 400),)))

    def test_there_and_back(self):
        wide = numbers_table(271, 6, 12, 10 ** 400 - 1)
        for table in MANY_TABLES + [wide, ((0, 0),), beside(((BIG,),), ((-BIG,),))]:
            text = told_alike(shown_table, table)
            self.assertIs(str, type(text))
            told = told_alike(read_table, text)
            self.assertEqual(table, told)
            self.assertTrue(just_tuples(told))
            self.assertEqual(text, shown_table(told))


class ReadTest(unittest.TestCase):
    def refused(self, text, row, word):
        for _ in range(2):
            with self.assertRaises(NoText) as caught:
                read_table(text)
            error = caught.exception
            self.assertIs(NoText, type(error))
            self.assertIsInstance(error, CornerError)
            self.assertNotIsInstance(error, NoLine)
            self.assertEqual((row, word), (error.row, error.word), text)
            self.assertEqual([int, int], [type(error.row), type(error.word)])

    def test_by_hand(self):
        self.assertEqual(((1, 2), (3, 4)), read_table("1 2; 3 4"))
        self.assertEqual(((0,),), read_table("0"))
        self.assertEqual(((-10,), (7,), (0,)), read_table("-10; 7; 0"))
        self.assertEqual(((100, 0, -203),), read_table("100 0 -203"))

    def test_no_sign_at_all(self):
        self.refused("", 0, 0)

    def test_blanks(self):
        self.refused(" ", 0, 0)
        self.refused(" 1", 0, 0)
        self.refused("1 ", 0, 1)
        self.refused("1  2", 0, 1)
        self.refused("1 2 ; 3 4", 0, 2)
        self.refused("1 2;  3 4", 1, 0)
        self.refused("1 2; 3 4 ", 1, 2)
        self.refused("1 2; 3  4", 1, 1)
        self.refused("   ", 0, 0)

    def test_semicolons(self):
        self.refused("1;2", 0, 0)
        self.refused("1 2;3 4", 0, 1)
        self.refused("1;", 0, 0)
        self.refused(";", 0, 0)
        self.refused("1 2; 3;", 1, 0)
        self.refused("1 2; 3 4;", 1, 1)
        self.refused("1;; 2", 0, 0)
        self.refused("1 ;2", 0, 1)

    def test_void_rows(self):
        self.refused("; ", 0, 0)
        self.refused("; 1", 0, 0)
        self.refused("1; ", 1, 0)
        self.refused("1; ; 2", 1, 0)
        self.refused("1 2; ; 3 4", 1, 0)
        self.refused("1 2; 3 4; ", 2, 0)

    def test_words_that_write_no_number(self):
        words = [
            "+1", "01", "-0", "-01", "00", "-", "--1", "1-", "1.0", "1,2", "0x1", "1e3", "1_000", "a", "", "+0", "-00",
            "(1)", "'1'", "~", "1/2", "000000000000", "True", "None", "*", "-a", "O", "l", "{1}", "1\t",
        ]
        for word in words:
            self.refused(word, 0, 0)
            self.refused("1 2 " + word, 0, 2)
            self.refused("1 2; 3 " + word, 1, 1)
            self.refused("5; " + word + "; 6", 1, 0)
            self.refused(word + " 4; 3", 0, 0)

    def test_figures(self):
        for figures in (399, 400):
            for sign in ("", "-"):
                word = sign + "7" * figures
                self.assertEqual(((1, int(word)),), read_table("1 " + word))
        for figures in (401, 402, 1000, 3990):
            for sign in ("", "-"):
                self.refused("1 " + sign + "7" * figures, 0, 1)
                self.refused("1; " + sign + "1" + "0" * (figures - 1), 1, 0)
        self.refused("8" * 6000, 0, 0)

    def test_words_too_many(self):
        self.refused("1; 2 3", 1, 1)
        self.refused("1 2; 3 4 5", 1, 2)
        self.refused("1 2; 3 4; 5 6 7 8", 2, 2)
        # The first word too many, and no later one that also writes no number.
        self.refused("1 2; 3 4 5 x", 1, 2)
        self.refused("1 2; 3 4 x", 1, 2)

    def test_words_too_few(self):
        self.refused("1 2; 3", 1, 1)
        self.refused("1 2 3; 4 5; 6", 1, 2)
        self.refused("1 2 3; 4 5 6; 7", 2, 1)

    def test_what_is_due_first(self):
        self.refused("1 x y; 2", 0, 1)
        self.refused("1 2; 3; x", 1, 1)
        self.refused("1 2; x 4 5", 1, 0)
        self.refused("1 2; 3 x 5", 1, 1)
        self.refused("1 2; x", 1, 0)
        self.refused("1 2; 3 4; 5; 6 7 8", 2, 1)
        self.refused("1 2; 3 4 5; 6", 1, 2)
        self.refused("1 -0; x", 0, 1)

    def test_long_texts(self):
        self.assertEqual(((0,) * 2000,), read_table("0 " * 1999 + "0"))
        self.assertEqual(((5,),) * 1300, read_table("5; " * 1299 + "5"))
        self.refused("5; " * 1299, 1299, 0)
        self.refused("1 " * 1999 + "x", 0, 1999)


if __name__ == "__main__":
    unittest.main()

import re
import unittest

from exacttable.tabletexts import read_table, table_text
from tests.test_tables import wrong_tables
from tests.things import GREATEST, Hostile, endless_list, forms, made_table, no_lists, refusal, sizes

SIGNS = [chr(code) for code in range(ord(" "), ord("~") + 1)]
NUMBER = "(?:0|[1-9][0-9]{0,12})"
ROW = NUMBER + "(?: " + NUMBER + "){0,5}"


def by_hand(table):
    """A table's text, sign by sign."""
    out = ""
    for i, row in enumerate(table):
        for j, number in enumerate(row):
            if j > 0:
                out += " "
            elif i > 0:
                out += "; "
            out += str(number)
    return out


def meant(text):
    """The table that a text is written for, or None."""
    if re.fullmatch(ROW + "(?:; " + ROW + "){0,5}", text) is None:
        return None
    rows = [[int(figures) for figures in re.findall("[0-9]+", part)] for part in text.split(";")]
    if len({len(row) for row in rows}) > 1 or max(max(row) for row in rows) > GREATEST:
        return None
    return rows


def some_tables():
    """Tables of all sizes, with the least and the greatest numbers among them."""
    tables = [[[0] * width] * height for height, width in sizes()]
    tables += [[[GREATEST] * width] * height for height, width in sizes()]
    tables += [made_table(height, width) for height, width in sizes()]
    tables += [[[10 ** ((i + 3 * j) % 13) - (i + j) % 2 for j in range(width)] for i in range(height)]
               for height, width in sizes()]
    return tables


class Written(unittest.TestCase):
    def test_as_told(self):
        self.assertEqual(table_text([[1, 0, 2], [0, 3, 1]]), "1 0 2; 0 3 1")
        self.assertEqual(table_text([[0]]), "0")
        self.assertEqual(table_text([[5], [6]]), "5; 6")
        self.assertEqual(table_text([[GREATEST, 0]]), "1000000000000 0")

    def test_all_sizes_and_forms(self):
        for table in some_tables():
            for form in forms(table):
                self.assertEqual(table_text(form), by_hand(table))

    def test_what_is_no_table(self):
        for thing in wrong_tables():
            self.assertEqual(refusal(table_text, thing), "NoTable")

    def test_the_table_stays(self):
        table = [[1, 2], [3, 4]]
        table_text(table)
        self.assertEqual(table, [[1, 2], [3, 4]])


class Read(unittest.TestCase):
    def test_as_told(self):
        self.assertEqual(read_table("1 0 2; 0 3 1"), [[1, 0, 2], [0, 3, 1]])
        self.assertEqual(read_table("0"), [[0]])
        self.assertEqual(read_table("1000000000000; 0"), [[GREATEST], [0]])

    def test_there_and_back(self):
        for table in some_tables():
            read = read_table(table_text(table))
            self.assertEqual(read, table)
            self.assertEqual({type(read)} | {type(row) for row in read}, {list})
            self.assertEqual(table_text(read), table_text(table))

    def test_blanks_and_semicolons(self):
        for text in ("", " ", "  ", ";", "; ", " ;", ";;", "; ; ", "1 ", " 1", "1  2", "1 2 ", " 1 2", "1;", "1; ",
                     "; 1", ";1", " ; 1", "1;2", "1 ;2", "1 ; 2", "1;  2", "1; 2;", "1; 2; ", "1;; 2", "1; ; 2",
                     "1\t2", "1\n2", "1; 2\n", "\n1", "1;\n2", "1,2", "1, 2", "[[1]]", "1.0", "1 2 ; 3 4"):
            self.assertEqual(refusal(read_table, text), "NoText", text)

    def test_noughts_signs_and_greatness(self):
        for number in ("00", "01", "000", "007", "0000000000001", "01000000000000", "+1", "-1", "-0", "+0", "--1",
                       "1-", "1_0", "1e3", "1000000000001", "9999999999999", "10000000000000", "1" * 60, "0x1",
                       "1" * 1900, "0" * 1900, "a", "None", "-", "True"):
            for text in (number, number + " 1", "1 " + number, "1; " + number, number + "; 1"):
                self.assertEqual(refusal(read_table, text), "NoText", text)

    def test_unlike_rows_and_too_many(self):
        for text in ("1 2; 3", "1; 2 3", "1 2; 3 4; 5", "1 2; 3 4; 5 6 7", "1 2; ; 3 4"):
            self.assertEqual(refusal(read_table, text), "NoText", text)
        for height, width in ((7, 1), (1, 7), (7, 6), (6, 7), (7, 7), (8, 2), (2, 8), (100, 1), (1, 100)):
            self.assertEqual(refusal(read_table, by_hand([[1] * width] * height)), "NoText")

    def check(self, text):
        table = meant(text)
        if table is None:
            self.assertEqual(refusal(read_table, text), "NoText", text)
        else:
            self.assertEqual(read_table(text), table, text)
            self.assertEqual(table_text(table), text)

    def test_each_sign_put_in_set_and_taken_out(self):
        for text in ("1 0 2; 0 3 1", "0", "10", "1000000000000", "0; 0", "7 1; 1000000000000 20", "1 2 3 4 5 6",
                     "1; 2; 3; 4; 5; 6", "", "1 2; 3"):
            for at in range(len(text)):
                self.check(text[:at] + text[at + 1:])
                for sign in SIGNS:
                    self.check(text[:at] + sign + text[at + 1:])
            for at in range(len(text) + 1):
                for sign in SIGNS:
                    self.check(text[:at] + sign + text[at:])

    def test_all_short_texts_of_the_signs_that_matter(self):
        texts = [""]
        for length in range(5):
            texts = [text + sign for text in texts for sign in "01 ;-"]
            for text in texts:
                self.check(text)

    def test_things_that_are_no_texts(self):
        for thing in no_lists() + [[], (), [[1]], ["1"], ("1",), [["1"]], b"1", b"1 2", bytearray(b"1"), {"1": 1},
                                   endless_list(), Hostile(), 10 ** 59]:
            if not isinstance(thing, str):
                self.assertEqual(refusal(read_table, thing), "NoText")

    def test_what_was_read_is_the_askers_own(self):
        read = read_table("1 2; 3 4")
        read[0][0] = 9
        read.pop()
        self.assertEqual(read_table("1 2; 3 4"), [[1, 2], [3, 4]])


if __name__ == "__main__":
    unittest.main()

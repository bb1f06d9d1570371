"""Promise 14: texts of entries, written and read."""

import random
import unittest
from string import ascii_lowercase

from headbook.errors import BadName, BadNumber, BadText, BookError
from headbook.notes import read, written
from tests.test_refusals import BAD_NAMES, BAD_NUMBERS, GOOD_LABELS
from tests.town import Town

A = ("a",)
ENTRIES = [((), 0), (("a",), 7), (("a", "bc"), 17), (("a", "bc", "def"), 999), (("zzz",) * 5, 100)]
TEXT = ". 0\na 7\na.bc 17\na.bc.def 999\nzzz.zzz.zzz.zzz.zzz 100"
GOOD_ROWS = TEXT.split("\n")
# Each sign that may stand in a text, and some that may not.
SIGNS = [chr(sign) for sign in range(32, 127)] + ["\n", "\t", "\r", "\x00", "\x0b", "\x0c", "\x1c", "\x85", "\u2028"]
SIGNS += ["\u00e9", "\u00b2", "\u0661", "\uff11", "\u0430", "\u00a0", "\ud800"]


class NotesCase(unittest.TestCase):
    def both(self, text, entries):
        ahead = list(entries)
        for _ in range(2):
            self.assertEqual(text, written(entries))
            self.assertEqual(ahead, entries)
            told = read(text)
            self.assertEqual(entries, told)
            self.assertIsInstance(told, list)
            self.assertEqual(text, written(told))
            told.append((A, 5))
            told.reverse()

    def refused_to_write(self, error, entries):
        ahead = list(entries)
        for _ in range(2):
            with self.assertRaises(BookError) as caught:
                written(entries)
            self.assertIs(error, caught.exception.__class__, entries)
            self.assertEqual(ahead, entries)

    def refused_to_read(self, row, text):
        for _ in range(2):
            with self.assertRaises(BookError) as caught:
                read(text)
            self.assertIs(BadText, caught.exception.__class__, text)
            self.assertEqual(row, caught.exception.row, text)
            self.assertNotIsInstance(caught.exception.row, bool)

    def none(self, row):
        """This row writes no entry, wherever it stands; behind it others write none, too."""
        if row:
            self.refused_to_read(0, row)
        self.refused_to_read(0, row + "\n" + TEXT)
        for at in range(1, 6):
            ahead = "\n".join(GOOD_ROWS[:at]) + "\n"
            self.refused_to_read(at, ahead + row)
            self.refused_to_read(at, ahead + row + "\n" + TEXT)
            self.refused_to_read(at, ahead + row + "\n" + row + "\n")


class WrittenTest(NotesCase):
    def test_no_entry(self):
        self.both("", [])

    def test_one_to_five_labels(self):
        self.both(". 5", [((), 5)])
        self.both("a.bc 17", [(("a", "bc"), 17)])
        for label in GOOD_LABELS:
            for size in range(1, 6):
                self.both(".".join([label] * size) + " 3", [((label,) * size, 3)])
        self.both("a.bc.def.gh.i 1", [(("a", "bc", "def", "gh", "i"), 1)])

    def test_numbers_of_one_to_three_figures(self):
        for number in range(1000):
            self.both("a " + str(number), [(A, number)])

    def test_several(self):
        self.both(TEXT, ENTRIES)
        for size in range(6):
            self.both("\n".join(GOOD_ROWS[:size]), ENTRIES[:size])

    def test_names_that_can_not_be(self):
        for name in BAD_NAMES:
            self.refused_to_write(BadName, [(name, 1)])
            self.refused_to_write(BadName, ENTRIES + [(name, 1)])

    def test_numbers_that_can_not_be(self):
        for number in BAD_NUMBERS + [None, "", "7", (), (7,)]:
            self.refused_to_write(BadNumber, [(A, number)])
            self.refused_to_write(BadNumber, ENTRIES + [(A, number)])

    def test_row_by_row(self):
        name, number, both = (("A",), 1), (A, 1000), (("A",), 1000)
        for rows, error in [
                ([name, number], BadName), ([number, name], BadNumber), ([both], BadName), ([both, number], BadName),
                ([number, both], BadNumber), ([(A, 1), number, name], BadNumber), ([(A, 1), name, number], BadName)]:
            self.refused_to_write(error, rows)
            self.refused_to_write(error, rows + ENTRIES)

    def test_what_houses_tell(self):
        for seed in range(40):
            chance = random.Random(seed)
            town = Town(2)
            for _ in range(50):
                name = tuple(chance.choice(["a", "b", "zz", "xyz"]) for _ in range(chance.randrange(6)))
                town[seed % 2].put(name, chance.randrange(1000))
            town.rest(50)
            entries = town[0].entries(())
            self.both(written(entries), entries)


class ReadTest(NotesCase):
    def test_no_text(self):
        self.assertEqual([], read(""))

    def test_rows_in_any_order_and_twice(self):
        """Only what no row can write is refused."""
        self.both("b 1\na 2\nb 1\n. 3", [(("b",), 1), (A, 2), (("b",), 1), ((), 3)])

    def test_rows_left_empty(self):
        self.none("")
        self.refused_to_read(0, "\n")
        self.refused_to_read(0, "\n\n\n")
        self.refused_to_read(0, "\na 1")
        self.refused_to_read(1, "a 1\n\nb 2")

    def test_a_line_end_at_the_end(self):
        self.refused_to_read(1, "a 1\n")
        self.refused_to_read(5, TEXT + "\n")
        self.refused_to_read(5, TEXT + "\n\n")

    def test_a_blank_too_many(self):
        for row in GOOD_ROWS:
            for at in range(len(row) + 1):
                self.none(row[:at] + " " + row[at:])
        for row in (" ", "  ", "   ", "a  1", " a 1", "a 1 ", "a 1  ", "  a 1", "a 1 1", "a 1 b 2", "a. b 1", ". . 1"):
            self.none(row)

    def test_no_blank(self):
        for row in ("a", "a1", ".", "5", ".5", "a.b", "a.5", "17", "abc"):
            self.none(row)
        for row in GOOD_ROWS:
            self.none(row.replace(" ", ""))

    def test_a_word_too_few(self):
        for row in ("a ", " 1", ". ", "a.b ", " 0"):
            self.none(row)

    def test_points(self):
        for row in (".a 1", "a. 1", "a..b 1", ".. 1", "... 1", ".a. 1", "a.b. 1", ".a.b 1", "a...b 1", "..a 1",
                    "a.b..c.d 1", "..... 1"):
            self.none(row)

    def test_labels(self):
        for row in ("abcd 1", "a.abcd 1", "abcd.a 1", "a.b.c.d.abcd 1", "aaaaaaaaaa 1", "a" * 5000 + " 1", "A 1",
                    "a.B 1", "aB 1", "Abc.d 1", "a1 1", "1 1", "a-b 1", "a,b 1", "a_b 1", "` 1", "{ 1", "@ 1", "[ 1"):
            self.none(row)

    def test_a_sixth_label(self):
        self.none("a.b.c.d.e.f 1")
        self.none("a.b.c.d.e. 1")
        self.none(".a.b.c.d.e 1")
        self.none("a.b.c.d.e.f.g.h 1")
        self.none(".".join(["a"] * 2000) + " 1")

    def test_a_needless_0(self):
        for number in ("00", "000", "01", "09", "010", "001", "099", "017"):
            self.none("a " + number)
        for number in ("0", "10", "100", "101", "900"):
            self.both("a " + number, [(A, int(number))])

    def test_four_figures(self):
        for number in ("1000", "9999", "0000", "0999", "10000", "1" * 5000):
            self.none("a " + number)

    def test_a_sign_ahead_of_the_number(self):
        for number in ("-1", "+1", "-0", "+0", "-", "+", "-17", "+99", "~1", "#1", ".1", "1.", "1.0", "1e1", "0x1",
                       "1_0", "1-", "a", "a1", "1a", "1,0"):
            self.none("a " + number)

    def test_each_sign_at_each_place(self):
        """Put into a row, or instead of one of its signs: only what writes an entry anew is read."""
        for row in ("a.bc 17", ". 0"):
            for sign in SIGNS:
                for at in range(len(row) + 1):
                    for told in {row[:at] + sign + row[at:], row[:at] + sign + row[at + 1:]}:
                        self.check(told)

    def check(self, text):
        try:
            entries = read(text)
        except BadText as refused:
            self.assertEqual(self.first_that_writes_none(text), refused.row, text)
        else:
            self.assertIsNone(self.first_that_writes_none(text))
            self.assertEqual(text, written(entries))

    def first_that_writes_none(self, text):
        figures = {str(number) for number in range(1000)}
        for at, row in enumerate(text.split("\n")):
            name, blank, number = row.partition(" ")
            labels = [] if name == "." else name.split(".")
            good = [label for label in labels if 1 <= len(label) <= 3 and set(label) <= set(ascii_lowercase)]
            if blank != " " or good != labels or len(labels) > 5 or number not in figures:
                return at
        return None

    def test_other_line_ends(self):
        for end in ("\r\n", "\r", "\x0b", "\x0c", "\x1c", "\x85", "\u2028", "\u2029"):
            self.refused_to_read(0, "a 1" + end + "b 2")
            self.refused_to_read(1, "c 3\na 1" + end)

    def test_the_first_row(self):
        for at in range(40):
            rows = ["a " + str(row) for row in range(40)]
            rows[at] = "a  1"
            self.refused_to_read(at, "\n".join(rows))
            self.refused_to_read(at, "\n".join(rows + ["", "b", "A 1"]))

    def test_texts_of_6000_signs(self):
        entries = [(("zzz",) * 5, 999)] * 250
        text = written(entries)
        self.assertEqual(5999, len(text))
        self.both(text, entries)
        self.refused_to_read(250, text + "\n")
        self.refused_to_read(249, text + "9")

    def test_somewhat_longer_texts(self):
        entries = [(A, 1), ((), 0)] * 1000
        self.both(written(entries), entries)
        self.refused_to_read(2000, written(entries) + "\n")


if __name__ == "__main__":
    unittest.main()

"""Promise 13: logs, which rows can be behind the rows ahead, and the entries behind them."""

import random
import unittest

from headbook.errors import BadLog, BookError
from headbook.logs import behind, judged
from tests.test_refusals import BAD_NAMES, GOOD_LABELS
from tests.town import NAMES, Town

A, B, C = ("a",), ("b",), ("c", "zz")
ENTRIES = [((), 0), (A, 7), (B, 999)]
GOOD = [("put", A, 1, 6), ("drop", B, 7), ("lacks", C, 7), ("look", (), None, 7), ("look", A, 8, 9999)]
BAD_MARKS = [-1, -2, 10000, 10001, 10 ** 30, -10 ** 30, True, False, None, "", "7", (), A]
BAD_NUMBERS = [-1, -2, 1000, 1001, 10 ** 30, -10 ** 30, True, False, "", "7", (), A]


def first_that_can_not_be(entries, mark, rows):
    """The same as judged, row by row with all that could be told there."""
    pages = [(dict(entries), mark)]
    for at, row in enumerate(rows):
        numbers, ahead = pages[-1]
        name = row[1]
        could_be = [("put", name, number, ahead + 1) for number in range(1000)]
        could_be.append(("drop", name, ahead + 1) if name in numbers else ("lacks", name, ahead))
        could_be.append(("look", name, numbers.get(name), ahead))
        if row not in could_be:
            return at
        now = {other: number for other, number in numbers.items() if other != name or row[0] not in ("put", "drop")}
        if row[0] == "put":
            now[name] = row[2]
        pages.append((now, row[-1]))
    return None


class LogsCase(unittest.TestCase):
    def judge(self, number, entries, mark, rows):
        """Asked twice, and what is handed in stays as it was."""
        ahead = list(entries), list(rows)
        for _ in range(2):
            self.assertEqual(number, judged(entries, mark, rows), (entries, mark, rows))
            self.assertEqual(ahead, (entries, rows))
        self.assertEqual(number, first_that_can_not_be(entries, mark, rows))

    def behind(self, expected, entries, rows):
        ahead = list(entries), list(rows)
        for _ in range(2):
            told = behind(entries, rows)
            self.assertEqual(expected, told, (entries, rows))
            self.assertIsInstance(told, list)
            told.reverse()
            told.append((A, 1))
            self.assertEqual(ahead, (entries, rows))

    def refused(self, number, rows):
        ahead = list(rows)
        for entries in (ENTRIES, []):
            for asked in (lambda: judged(entries, 5, rows), lambda: behind(entries, rows)):
                for _ in range(2):
                    with self.assertRaises(BookError) as caught:
                        asked()
                    self.assertIs(BadLog, caught.exception.__class__)
                    self.assertEqual(number, caught.exception.number, rows)
                    self.assertNotIsInstance(caught.exception.number, bool)
                    self.assertEqual(ahead, rows)


class JudgedTest(LogsCase):
    def test_no_row(self):
        for mark in (0, 5, 9999):
            for entries in ([], ENTRIES):
                self.judge(None, entries, mark, [])

    def test_rows_that_can_be(self):
        for row in [("put", A, 0, 6), ("put", A, 7, 6), ("put", C, 999, 6), ("put", (), 0, 6), ("drop", (), 6),
                    ("drop", A, 6), ("lacks", C, 5), ("look", A, 7, 5), ("look", (), 0, 5), ("look", C, None, 5)]:
            self.judge(None, ENTRIES, 5, [row])
            self.judge(None, ENTRIES, 5, [("look", B, 999, 5), row])
            self.judge(None, ENTRIES, 4, [("put", B, 3, 5), row])

    def test_marks(self):
        for mark in (0, 5, 9990):
            for word, least in [("put", 1), ("drop", 1), ("lacks", 0), ("look", 0)]:
                for more in (-2, -1, 0, 1, 2, 3):
                    if mark + more >= 0:
                        row = {"put": ("put", A, 1), "drop": ("drop", A), "lacks": ("lacks", C), "look": ("look", A, 7)}
                        self.judge(None if more == least else 0, ENTRIES, mark, [row[word] + (mark + more,)])

    def test_put_anew_of_the_same_number(self):
        self.judge(None, ENTRIES, 5, [("put", A, 7, 6), ("put", A, 7, 7), ("look", A, 7, 7)])
        self.judge(1, ENTRIES, 5, [("put", A, 7, 6), ("put", A, 7, 6)])

    def test_drop_of_a_name_that_has_none(self):
        self.judge(0, ENTRIES, 5, [("drop", C, 6)])
        self.judge(0, [], 5, [("drop", A, 6)])
        self.judge(1, ENTRIES, 5, [("drop", A, 6), ("drop", A, 7)])
        self.judge(None, ENTRIES, 5, [("put", C, 1, 6), ("drop", C, 7)])
        # Names above and below one that has a number have none by that.
        self.judge(0, [(A, 1)], 5, [("drop", A + A, 6)])
        self.judge(0, [(A + A, 1)], 5, [("drop", A, 6)])

    def test_lacks_of_a_name_that_has_one(self):
        self.judge(0, ENTRIES, 5, [("lacks", A, 5)])
        self.judge(0, ENTRIES, 5, [("lacks", (), 5)])
        self.judge(1, ENTRIES, 5, [("put", C, 0, 6), ("lacks", C, 6)])
        self.judge(None, ENTRIES, 5, [("drop", A, 6), ("lacks", A, 6), ("lacks", A, 6)])

    def test_look(self):
        for number in (None, 0, 1, 6, 7, 8, 999):
            self.judge(None if number == 7 else 0, ENTRIES, 5, [("look", A, number, 5)])
            self.judge(None if number == 0 else 0, ENTRIES, 5, [("look", (), number, 5)])
            self.judge(None if number is None else 0, ENTRIES, 5, [("look", C, number, 5)])
            self.judge(None if number == 8 else 1, ENTRIES, 5, [("put", A, 8, 6), ("look", A, number, 6)])
            self.judge(None if number is None else 1, ENTRIES, 5, [("drop", A, 6), ("look", A, number, 6)])

    def test_the_first_that_can_not_be(self):
        rows = [("look", A, 7, 5), ("put", A, 8, 6), ("look", A, 8, 6), ("drop", A, 7), ("lacks", A, 7)]
        wrong = ("lacks", B, 7)
        self.judge(None, ENTRIES, 5, rows)
        for at in range(6):
            self.judge(at, ENTRIES, 5, rows[:at] + [wrong] + rows[at:])
            self.judge(at, ENTRIES, 5, rows[:at] + [wrong, wrong])
            self.judge(at, ENTRIES, 5, rows[:at] + [wrong] * (200 - at))

    def test_the_entries_ahead_and_the_mark_are_what_is_told(self):
        row = ("look", A, 7, 5)
        self.judge(None, [(A, 7)], 5, [row])
        self.judge(0, [(A, 8)], 5, [row])
        self.judge(0, [(B, 7)], 5, [row])
        self.judge(0, [], 5, [row])
        for mark in (4, 6, 0, 9999):
            self.judge(0, ENTRIES, mark, [row])

    def test_long_logs(self):
        rows = [("put", NAMES[at % len(NAMES)], at, at + 1) for at in range(200)]
        self.judge(None, [], 0, rows)
        self.judge(199, [], 0, rows[:-1] + [("put", A, 1, 201)])
        for at in (0, 1, 100, 198, 199):
            self.judge(at, [], 0, rows[:at] + [("lacks", ("q",), at + 1)] + rows[at + 1:])

    def test_marks_beyond_what_a_log_may_tell(self):
        """Only rows are refused: entries and marks are as a house tells them."""
        self.judge(None, ENTRIES, 20000, [])
        self.judge(0, ENTRIES, 20000, [("look", A, 7, 9999)])

    def test_greatest_marks(self):
        self.judge(None, [], 9998, [("put", A, 1, 9999), ("look", A, 1, 9999)])
        self.judge(None, [], 9999, [("lacks", A, 9999)])
        self.judge(0, [], 9999, [("put", A, 1, 9999)])
        self.judge(0, [], 0, [("put", A, 1, 0)])


class BehindTest(LogsCase):
    def test_no_row(self):
        self.behind(ENTRIES, ENTRIES, [])
        self.behind([], [], [])

    def test_of_logs_that_can_be(self):
        self.behind([((), 0), (A, 1), (B, 999)], ENTRIES, [("put", A, 1, 6)])
        self.behind([((), 0), (B, 999)], ENTRIES, [("drop", A, 6)])
        self.behind(ENTRIES, ENTRIES, [("lacks", C, 5), ("look", A, 7, 5), ("look", C, None, 5)])
        self.behind([], ENTRIES, [("drop", A, 6), ("drop", (), 7), ("drop", B, 8)])
        self.behind(ENTRIES, ENTRIES, [("drop", A, 6), ("put", A, 3, 7), ("put", A, 7, 8)])
        self.behind(ENTRIES, ENTRIES, [("put", C, 3, 6), ("drop", C, 7)])

    def test_of_logs_that_can_not_be(self):
        """What they put and drop is put and dropped, whatever their marks and other rows tell."""
        self.behind([((), 0), (A, 1), (B, 999)], ENTRIES, [("put", A, 1, 9999)])
        self.behind([((), 0), (A, 2), (B, 999)], ENTRIES, [("put", A, 1, 0), ("put", A, 2, 0)])
        self.behind([((), 0), (B, 999)], ENTRIES, [("drop", A, 0), ("drop", A, 0), ("drop", C, 0)])
        self.behind(ENTRIES, ENTRIES, [("look", A, 3, 5), ("look", A, None, 5), ("look", C, 9, 5)])
        self.behind(ENTRIES, ENTRIES, [("lacks", A, 5), ("lacks", (), 77)])
        rows = [("drop", C, 3), ("put", C, 3, 3), ("lacks", C, 3), ("look", C, None, 3), ("put", A, 4, 3)]
        self.assertEqual(0, judged(ENTRIES, 5, rows))
        self.behind([((), 0), (A, 4), (B, 999), (C, 3)], ENTRIES, rows)

    def test_they_rise(self):
        names = [("c",), ("b", "a"), ("b",), ("ab",), ("a", "z"), ("aa",), (), ("a",), ("a", "a", "a")]
        rows = [("put", name, at, at + 1) for at, name in enumerate(names)]
        rising = [((), 6), (A, 7), (A * 3, 8), (A + ("z",), 4), (("aa",), 5), (("ab",), 3), (B, 2), (B + A, 1),
                  (("c",), 0)]
        self.behind(rising, [], rows)
        self.behind(rising, [(("b",), 500)], rows)
        self.behind(sorted(rising + [(("aab",), 1), (("z",), 0)]), [(("aab",), 1), (("z",), 0)], rows)

    def test_long_logs(self):
        rows = [("put", NAMES[at % 12], at, at + 1) for at in range(200)]
        self.behind(sorted([(NAMES[at % 12], at) for at in range(188, 200)]), [], rows)
        self.behind([], [(NAMES[0], 5)], [("drop", NAMES[0], at) for at in range(200)])


class BadLogTest(LogsCase):
    def row(self, row):
        """This row is none, wherever it stands; behind it others are none, too."""
        for at in (0, 1, 4, 5):
            rows = GOOD[:at]
            self.refused(at, rows + [row])
            self.refused(at, rows + [row] + GOOD)
            self.refused(at, rows + [row, row, None])

    def test_good(self):
        behind(ENTRIES, GOOD)
        judged(ENTRIES, 5, GOOD)

    def test_another_word(self):
        for word in ("", "Put", "PUT", "pu", "putt", "put ", " put", "drops", "lack", "looks", "is", "done", "copy",
                     "leave", "cut", None, 0, 1, True, (), ("put",), A):
            self.row((word, A, 1, 6))
            self.row((word, A, 6))
            self.row((word,))

    def test_no_row(self):
        for row in ((), None, True, False, 0, 5, "", "put", "look", A, ((),), (("put", A, 1, 6),), list(GOOD[0])):
            self.row(row)

    def test_too_long_or_too_short(self):
        for row in GOOD:
            self.row(row[:-1])
            self.row(row + row[-1:])
            self.row(row + (None,))
            self.row(row[:1])
            self.row(row[:2])
            self.row(row[1:])
            self.row(row * 50)
        self.row(("drop", A, 1, 6))
        self.row(("lacks", A, None, 6))
        self.row(("put", A, 6))
        self.row(("look", A, 6))

    def test_a_name_that_is_none(self):
        for name in BAD_NAMES:
            for row in GOOD[:4]:
                self.refused(2, GOOD[:2] + [(row[0], name) + row[2:]])
        for label in GOOD_LABELS:
            for size in range(6):
                rows = [(row[0], (label,) * size) + row[2:] for row in GOOD]
                self.assertIsInstance(behind([], rows), list)

    def test_a_number_that_is_none(self):
        for number in BAD_NUMBERS:
            self.row(("put", A, number, 6))
            self.row(("look", A, number, 5))
        for number in (0, 1, 998, 999):
            self.judge(None, ENTRIES, 5, [("put", A, number, 6), ("look", A, number, 6)])

    def test_a_mark_that_is_none(self):
        for mark in BAD_MARKS:
            for row in GOOD:
                self.row(row[:-1] + (mark,))
        for mark in (0, 1, 9998, 9999):
            for row in GOOD:
                self.assertIsInstance(behind([], [row[:-1] + (mark,)]), list)

    def test_none_where_none_may_stand(self):
        for row in GOOD:
            for at in range(len(row)):
                if (row[0], at) != ("look", 2):
                    self.row(row[:at] + (None,) + row[at + 1:])
        self.judge(None, [], 5, [("look", A, None, 5)])

    def test_a_201st(self):
        rows = [("look", A, None, 5)] * 200
        self.judge(None, [], 5, rows)
        self.behind(ENTRIES, ENTRIES, rows)
        for more in (1, 2, 50, 1000):
            self.refused(200, rows + [("look", A, None, 5)] * more)
            self.refused(200, rows + [None] * more)
            # Rows that can't be are rows, too.
            self.refused(200, [("drop", C, 0)] * (200 + more))
            for at in (0, 7, 199):
                self.refused(at, rows[:at] + [None] + rows[at + 1:] + rows[:more])

    def test_ahead_of_what_is_judged(self):
        self.refused(3, [("drop", C, 0), ("lacks", A, 0), ("look", A, 0, 0), ("drop", A, True)])


class HousesTest(LogsCase):
    def test_what_houses_do_is_a_log(self):
        """A log of the answers about one part, over what entries told ahead, tells what it tells behind."""
        for seed in range(60):
            chance = random.Random(seed)
            town = Town(2 + seed % 5)
            for name in NAMES[:6]:
                town[0].put(name, chance.randrange(1000))
            town.rest(6)
            entries, mark = town[0].entries(()), town[0].parts()[0][2]
            asker = town[1]
            asks = [(chance.choice(["put", "drop", "look"]), chance.choice(NAMES), chance.randrange(1000))
                    for _ in range(60)]
            for kind, name, number in asks:
                getattr(asker, kind)(*((name, number) if kind == "put" else (name,)))
            town.rest(60)
            rows = [self.row(ask, answer) for ask, (_, answer) in zip(asks, asker.answers())]
            self.judge(None, entries, mark, rows)
            self.behind(town[0].entries(()), entries, rows)
            self.changed(chance, entries, mark, rows)

    def row(self, ask, answer):
        kind, name, number = ask
        if kind == "put":
            return ("put", name, number, answer[2])
        if kind == "look":
            return ("look", name, answer[3], answer[2])
        return ("lacks" if answer[0] == "lacks" else "drop", name, answer[2])

    def changed(self, chance, entries, mark, rows):
        """One row left out, told twice, or told otherwise: the oracle tells whether it can be."""
        for _ in range(20):
            at = chance.randrange(len(rows))
            row = rows[at]
            otherwise = row[:-1] + (row[-1] + chance.choice([-1, 1]),)
            another = (row[0], chance.choice(NAMES)) + row[2:]
            instead = chance.choice([[], [row, row], [otherwise], [another]])
            told = rows[:at] + instead + rows[at + 1:]
            self.judge(first_that_can_not_be(entries, mark, told), entries, mark, told)


if __name__ == "__main__":
    unittest.main()

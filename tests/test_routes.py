"""Promise 12: by which houses an ask goes, and which tables can be."""

import random
import unittest

from headbook.errors import BadHouse, BadName, BadTables, BookError
from headbook.routes import route
from tests.test_refusals import BAD_LABELS, BAD_NAMES, GOOD_LABELS
from tests.town import NAMES, longest, under

FIRST = (((), 0, 0),)
NOWHERE = (FIRST, ())
GOOD = ((((), 3, 0), (("a",), 0, 1), (("a", "b"), 99, 1), (("b",), 1, 0)), ((), ("a", "b")))


def knows(*rows):
    """A table of a house that is home of nothing."""
    return (tuple(rows), ())


def others(many):
    return [NOWHERE] * many


def expected(tables, house, name):
    """The same route, by all the roots that a house knows and all the ways that it could send."""
    houses, by = [house], None
    while True:
        rows, homes = tables[houses[-1]]
        ways = sorted([(len(root), turn, to, root) for root, turn, to in rows if under(name, root)])
        length, turn, to, root = ways[-1]
        if root in homes:
            return houses, "home"
        if by is not None and by >= (length, turn):
            return houses, "waits"
        houses, by = houses + [to], (length, turn)


class WayTest(unittest.TestCase):
    def check(self, houses, word, tables, house, name):
        ahead = list(tables)
        told = route(tables, house, name)
        self.assertEqual((houses, word), told)
        self.assertIsInstance(told, tuple)
        self.assertIsInstance(told[0], list)
        self.assertEqual((houses, word), expected(tables, house, name))
        told[0].append(7)
        self.assertEqual((houses, word), route(tables, house, name))
        self.assertEqual(ahead, tables)

    def test_home_by_one_house(self):
        for many in range(2, 7):
            tables = [(FIRST, ((),))] + others(many - 1)
            for name in NAMES:
                self.check([0], "home", tables, 0, name)

    def test_home_by_several(self):
        for many in range(2, 7):
            tables = [(FIRST, ((),))] + others(many - 1)
            for house in range(1, many):
                self.check([house, 0], "home", tables, house, ("a", "b"))
        chain = [knows(((), turn, turn)) for turn in range(1, 5)] + [((((), 4, 4),), ((),)), NOWHERE]
        for house in range(5):
            self.check(list(range(house, 5)), "home", chain, house, ("a",))
        self.check([5, 0, 1, 2, 3, 4], "home", chain, 5, ())

    def test_waits_by_one_house(self):
        """It knows itself for the root and isn't home: so it stands twice."""
        tables = [NOWHERE, knows(((), 0, 0), (("b",), 2, 1)), knows(((), 99, 2))]
        self.check([0, 0], "waits", tables, 0, ("a",))
        self.check([1, 1], "waits", tables, 1, ("b", "c"))
        self.check([2, 2], "waits", tables, 2, ())

    def test_waits_by_several(self):
        under_way = [knows(((), 1, 1)), NOWHERE, knows(((), 0, 0))]
        self.check([0, 1], "waits", under_way, 0, ("a",))
        self.check([1, 0, 1], "waits", under_way, 1, ("a",))
        self.check([2, 0, 1], "waits", under_way, 2, ("a",))

    def test_who_knows_itself_on_the_way_stands_twice(self):
        tables = [knows(((), 0, 1)), ((((), 0, 1), (("a",), 0, 1)), ((),))]
        self.check([0, 1, 1], "waits", tables, 0, ("a", "a"))
        self.check([0, 1], "home", tables, 0, ("b",))
        tables = [knows(((), 0, 1)), knows(((), 1, 1))]
        self.check([0, 1, 1], "waits", tables, 0, ("b",))
        tables = [knows(((), 1, 1)), knows(((), 1, 1))]
        self.check([0, 1], "waits", tables, 0, ("b",))

    def test_by_a_longer_root_whatever_its_turn(self):
        far, near = ((), 99, 1), (("a",), 0, 2)
        home = ((((), 0, 0), near), (("a",),))
        self.check([0, 2], "home", [knows(far, near), NOWHERE, home], 0, ("a", "b"))
        self.check([0, 1, 2], "home", [knows(far), knows(far, near), home], 0, ("a", "b"))
        self.check([0, 1], "waits", [knows(far), knows(((), 99, 2)), home], 0, ("a", "b"))
        name = ("a", "b", "c", "d", "e")
        tables = [
            knows(((), 5, 1)), knows(((), 5, 1), (name[:1], 4, 2)), knows(((), 5, 1), (name[:2], 3, 3)),
            knows(((), 5, 1), (name[:3], 2, 4)), knows(((), 5, 1), (name[:4], 1, 5)),
            ((((), 5, 1), (name, 0, 0)), (name,)),
        ]
        self.check([0, 1, 2, 3, 4, 5], "home", tables, 0, name)
        self.check([0, 1, 2, 3, 4, 5], "waits", tables, 0, name[:4] + ("x",))

    def test_not_by_a_shorter_root_of_a_greater_turn(self):
        tables = [knows(((), 0, 0), (("a",), 1, 1)), knows(((), 99, 2)), ((((), 99, 2),), ((),))]
        self.check([0, 1], "waits", tables, 0, ("a",))
        self.check([1, 2], "home", tables, 1, ("a",))

    def test_by_as_long_a_root_and_a_greater_turn_only(self):
        for turn, route_told in [(4, ([0, 1], "waits")), (5, ([0, 1], "waits")), (6, ([0, 1, 2], "home"))]:
            tables = [knows(((), 5, 1)), knows(((), turn, 2)), ((((), 6, 2),), ((),))]
            self.check(*route_told, tables, 0, ("a",))

    def test_home_of_the_longest_root_that_it_knows(self):
        """What it knows of where that is doesn't matter then, nor what it is home of else."""
        tables = [((((), 0, 0), (("a",), 3, 1)), (("a",),)), NOWHERE]
        self.check([0], "home", tables, 0, ("a",))
        self.check([0, 0], "waits", tables, 0, ("b",))
        tables = [((((), 0, 0), (("a",), 3, 1)), ((),)), ((((), 0, 0), (("a",), 3, 1)), (("a",),))]
        self.check([0, 1], "home", tables, 0, ("a", "z"))
        self.check([0], "home", tables, 0, ("z", "a"))
        self.check([1, 0], "home", tables, 1, ("z", "a"))

    def test_a_longest_root_that_is_home_elsewhere(self):
        """It waits where its part isn't, also by who is home of a shorter root."""
        tables = [((((), 0, 0), (("a",), 1, 1)), ((),)), NOWHERE]
        self.check([0, 1], "waits", tables, 0, ("a",))
        tables = [((((), 0, 0), (("a",), 1, 1)), ()), (FIRST, ((),))]
        self.check([0, 1], "home", tables, 0, ("a",))

    def test_a_name_is_under_labels_and_not_under_letters(self):
        rows = (((), 0, 0), (("a",), 0, 1), (("a", "b"), 0, 2), (("ab",), 0, 3))
        tables = [(rows, ())] + [(rows, (row[0],)) for row in rows[1:]]
        for name, house in [(("a",), 1), (("a", "c"), 1), (("a", "b"), 2), (("a", "b", "a"), 2), (("ab",), 3),
                            (("ab", "b"), 3), (("a", "bc"), 1)]:
            self.check([0, house], "home", tables, 0, name)
        for name in [(), ("b",), ("b", "a"), ("abc",), ("aa",)]:
            self.check([0, 0], "waits", tables, 0, name)

    def test_there_and_back(self):
        tables = [knows(((), 1, 1)), knows(((), 2, 0)), knows(((), 0, 0))]
        self.check([2, 0, 1, 0], "waits", tables, 2, ())
        self.check([1, 0], "waits", tables, 1, ())

    def test_by_chance_from_fixed_seeds(self):
        words = []
        for seed in range(2000):
            chance = random.Random(seed)
            many = chance.randrange(2, 7)
            tables = []
            for _ in range(many):
                roots = sorted({()} | {chance.choice(NAMES) for _ in range(chance.randrange(6))})
                rows = tuple((root, chance.randrange(4), chance.randrange(many)) for root in roots)
                tables.append((rows, tuple(root for root in roots if chance.randrange(5) == 0)))
            for name in NAMES:
                house = chance.randrange(many)
                houses, word = route(tables, house, name)
                self.assertEqual((houses, word), expected(tables, house, name), (tables, house, name))
                words.append((word, min(len(houses), 4)))
        for word in ("home", "waits"):
            for size in range(2, 5):
                self.assertGreater(words.count((word, size)), 20, (word, size))


class RefusedTest(unittest.TestCase):
    def refused(self, error, tables, house, name):
        ahead = list(tables)
        with self.assertRaises(BookError) as caught:
            route(tables, house, name)
        self.assertIs(error, caught.exception.__class__, (tables, house, name))
        self.assertEqual(ahead, tables)
        return caught.exception

    def number(self, number, tables):
        told = self.refused(BadTables, tables, 0, ()).number
        self.assertEqual(number, told, tables)
        self.assertNotIsInstance(told, bool)

    def none(self, table):
        """This table is none, wherever it stands; behind it others are none, too."""
        for many in range(2, 7):
            for at in range(many):
                self.number(at, [GOOD] * at + [table] + [GOOD] * (many - at - 1))
                self.number(at, [GOOD] * at + [table] * (many - at))
                self.number(at, [GOOD] * at + [table] + [()] * (many - at - 1))

    def row(self, row, at=1):
        self.none((GOOD[0][:at] + (row,) + GOOD[0][at + 1:], ()))

    def test_good(self):
        for many in range(2, 7):
            self.assertEqual(([many - 1, 0], "waits"), route([GOOD] * many, many - 1, ("b",)))
            self.assertEqual(([many - 1], "home"), route([GOOD] * many, many - 1, ("c",)))

    def test_how_many_tables(self):
        self.number(0, [])
        self.number(1, [GOOD])
        for many in (7, 8, 20, 300):
            self.number(6, [GOOD] * many)

    def test_how_many_ahead_of_which(self):
        for table in (None, (), True, ((), ())):
            self.number(1, [table])
            self.number(6, [table] * 7)
            self.number(6, [GOOD, table] + [GOOD] * 5)

    def test_no_pair(self):
        for table in (None, True, False, 0, 7, "", "ab", (), (FIRST,), (FIRST, (), ()), FIRST, (FIRST, (), None)):
            self.none(table)

    def test_what_is_known_is_no_tuple(self):
        for told in (None, True, 0, "", "a", "abc", 17):
            self.none((told, ()))

    def test_what_it_is_home_of_is_no_tuple(self):
        for told in (None, True, 0, "", "a", "abc", 17):
            self.none((FIRST, told))

    def test_a_row_that_is_none(self):
        for row in (None, True, 5, "", "abc", (), ("a",), (("a",), 0), (("a",), 0, 1, 0), (("a",), 0, 1, None),
                    ((("a",), 0, 1),)):
            self.row(row)

    def test_a_root_that_is_no_name(self):
        for root in BAD_NAMES:
            self.row((root, 0, 1))
        for label in GOOD_LABELS:
            tables = [((((), 0, 0), ((label,), 0, 1)), ()), ((((), 0, 0), ((label,), 0, 1)), ((label,),))]
            self.assertEqual(([0, 1], "home"), route(tables, 0, (label,)))

    def test_a_turn_that_is_none(self):
        for turn in (-1, -2, 100, 101, 10 ** 30, -10 ** 30, True, False, None, "", "1", (), (1,)):
            self.row((("a",), turn, 1))
            self.row(((), turn, 0), 0)
        for turn in (0, 1, 98, 99):
            rows = (((), 0, 0), (("a",), turn, 1))
            self.assertEqual(([0, 1], "home"), route([(rows, ()), (rows, (("a",),))], 0, ("a",)))

    def test_a_house_that_there_is_not(self):
        for house in (-1, -6, 6, 7, 10 ** 30, True, False, None, "", "1", (), (1,)):
            self.row((("a",), 0, house))
            self.row(((), 0, house), 0)
        for many in range(2, 7):
            for house in range(7):
                table = ((((), 0, house),), ())
                if house < many:
                    self.assertEqual("waits", route([table] * many, 0, ())[1])
                else:
                    self.number(0, [table] * many)
                    self.number(1, [NOWHERE] + [table] * (many - 1))

    def test_rows_that_do_not_rise(self):
        rows = GOOD[0]
        for at in range(1, 4):
            told = list(rows)
            told[at - 1], told[at] = told[at], told[at - 1]
            self.none((tuple(told), ()))
        self.none((rows[::-1], ()))
        self.none((rows[1:] + rows[:1], ()))
        self.none(knows(((), 0, 0), (("b",), 0, 0), (("ab",), 1, 1)))
        self.none(knows(((), 0, 0), (("a", "a"), 0, 0), (("a",), 1, 1)))
        knows_all = knows(((), 9, 1), (("a",), 8, 1), (("a", "z"), 7, 1), (("aa",), 6, 0), (("b",), 5, 0))
        self.assertEqual(([0, 1], "waits"), route([knows_all, NOWHERE], 0, ("a", "z")))

    def test_a_root_twice(self):
        for at in range(4):
            rows = GOOD[0]
            self.none((rows[:at + 1] + rows[at:], ()))
        self.none(knows(((), 0, 0), ((), 1, 0)))
        self.none(knows(((), 0, 0), ((), 0, 1)))
        self.none(knows(((), 0, 0), (("a",), 0, 1), (("a",), 1, 0)))
        self.none(knows(((), 0, 0), (("a",), 0, 0), (("a",), 0, 1)))

    def test_the_root_of_all_left_out(self):
        self.none(((), ()))
        self.none(knows((("a",), 0, 0)))
        self.none((GOOD[0][1:], (("a",),)))

    def test_a_home_that_is_not_among_the_roots(self):
        for home in (("c",), ("a", "a"), ("ab",), ("a", "b", "c"), None, True, False, 0, 1, "", "a", "b", (True,),
                     ((),), ("",), (("a",),)):
            self.none((GOOD[0], (home,)))
            self.none((GOOD[0], ((), home)))
            self.none((GOOD[0], (home, ("b",))))

    def test_homes_that_do_not_rise(self):
        for homes in [(("a",), ()), (("b",), ("a",)), (("a", "b"), ("a",)), ((), ("b",), ("a",)), (("b",), ("a", "b"))]:
            self.none((GOOD[0], homes))

    def test_a_home_twice(self):
        for homes in [((), ()), (("a",), ("a",)), ((), ("b",), ("b",)), ((), ("a",), ())]:
            self.none((GOOD[0], homes))

    def test_all_homes_and_none(self):
        roots = tuple(row[0] for row in GOOD[0])
        for homes in [(), roots, roots[1:], roots[:1], roots[::2]]:
            told = route([(GOOD[0], homes), GOOD], 0, ("b", "b"))
            self.assertEqual(([0], "home") if ("b",) in homes else ([0, 0], "waits"), told)

    def test_houses(self):
        for many in range(2, 7):
            for house in (many, many + 1, 6, 7, -1, -many, 10 ** 30, -10 ** 30, True, False):
                if house != 6 or many < 6:
                    self.refused(BadHouse, [GOOD] * many, house, ())

    def test_names(self):
        for name in BAD_NAMES:
            for house in (0, 1):
                self.refused(BadName, [GOOD] * 2, house, name)
        for label in BAD_LABELS:
            self.refused(BadName, [GOOD] * 2, 1, (label,))

    def test_what_is_handed_in_first_is_refused_first(self):
        for tables, number in [([], 0), ([None], 1), ([GOOD] * 7, 6), ([GOOD, None], 1)]:
            for house in (0, 9, True):
                for name in ((), ("A",)):
                    self.assertEqual(number, self.refused(BadTables, tables, house, name).number)
        for house in (2, -1, True):
            for name in (("A",), None, "a", True):
                self.refused(BadHouse, [GOOD] * 2, house, name)

    def test_refused_twice(self):
        tables = [GOOD, GOOD, (FIRST, (("a",),)), None]
        for _ in range(3):
            self.number(2, tables)


if __name__ == "__main__":
    unittest.main()

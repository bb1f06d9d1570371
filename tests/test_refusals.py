"""Promises 2, 4, 5 and 7: what is refused, by which class, what first, and that it changes nothing."""

import unittest

from headbook.errors import BadCut, BadHouse, BadName, BadNumber, BookError, Full, NotHome
from headbook.houses import House
from tests.town import KINDS, Town, all_tells, refused

BAD_LABELS = [
    "", "abcd", "a" * 5000, "A", "aB", "a ", " ", "a1", "1", "-", "`", "{", "a.b", "a\n", "\n",
    "\u00e9", "\u03b1", "\u0430", "\uff41", "\u00df", 0, 1, 7, True, None, (), ("a",), (("a",),),
]
GOOD_LABELS = ["a", "z", "aa", "az", "zz", "abc", "zzz"]
BAD_NAMES = [
    "", "a", "abc", 0, 1, -1, 10 ** 30, True, None, ("a",) * 6, ("a",) * 5000, ("a",) * 5 + ("",),
]
for size in range(1, 6):
    for at in range(size):
        for label in BAD_LABELS:
            BAD_NAMES.append(("a",) * at + (label,) + ("b",) * (size - at - 1))
BAD_NUMBERS = [-1, -2, -1000, -10 ** 30, 1000, 1001, 10 ** 30, True, False]


def args_of(kind, name):
    return (name, 5) if kind == "put" else (name,)


def settled():
    """House 0 is home of () and ("a", "a"), house 1 of ("a",), and house 2 has a copy of it."""
    town = Town(3)
    town[0].put((), 1)
    town[0].put(("a",), 2)
    town[0].put(("a", "a", "a"), 3)
    town.rest(3)
    town[0].cut(("a", "a"))
    town[0].cut(("a",))
    town[0].move(("a",), 1)
    town[2].copy(("a",))
    return town.rest(1)


class HouseNumbersTest(unittest.TestCase):
    def refused(self, number, many):
        with self.assertRaises(BookError) as caught:
            House(number, many)
        self.assertIs(BadHouse, caught.exception.__class__, (number, many))

    def test_houses_that_are(self):
        for many in range(2, 7):
            for number in range(many):
                House(number, many)

    def test_houses_that_are_none(self):
        for many in range(2, 7):
            for number in (many, many + 1, -1, -many, 10 ** 30, -10 ** 30, True, False):
                self.refused(number, many)

    def test_too_few_and_too_many(self):
        for many in (-10 ** 30, -2, -1, 0, 1, 7, 8, 10 ** 30, True, False):
            for number in (0, 1, -1, many):
                self.refused(number, many)


class NamesTest(unittest.TestCase):
    def setUp(self):
        self.town = settled()

    def test_names_that_can_not_be(self):
        for name in BAD_NAMES:
            for house in self.town.houses:
                for kind in KINDS:
                    refused(self, house, BadName, kind, *args_of(kind, name))
                for kind in ("cut", "entries", "old"):
                    refused(self, house, BadName, kind, name)
                refused(self, house, BadName, "move", name, 2)

    def test_names_that_are_just_within_the_bounds(self):
        names = [(label,) * size for label in GOOD_LABELS for size in range(6)]
        for at, name in enumerate(names):
            house = Town(2)[at % 2]
            for ask, kind in enumerate(KINDS):
                self.assertEqual(ask, getattr(house, kind)(*args_of(kind, name)))
            house.old(name)
        for size in range(1, 6):
            for at in range(size):
                for label in GOOD_LABELS:
                    town = Town(2)
                    name = ("m",) * at + (label,) + ("n",) * (size - at - 1)
                    town[0].put(name, 9)
                    town.rest(1)
                    self.assertEqual([(name, 9)], town[0].entries(()))
                    town[0].cut(name)
                    town[0].move(name, 1)

    def test_numbers(self):
        for number in BAD_NUMBERS:
            for house in self.town.houses:
                refused(self, house, BadNumber, "put", ("a",), number)
        for number in (0, 1, 998, 999):
            town = Town(2)
            town[1].put(("a",), number)
            town.rest(1)
            self.assertEqual([(("a",), number)], town[0].entries(()))

    def test_the_name_is_refused_ahead_of_the_number(self):
        for name in BAD_NAMES:
            for number in (-1, 1000, True):
                refused(self, self.town[0], BadName, "put", name, number)


class FullTest(unittest.TestCase):
    def full(self, number):
        town = Town(2)
        house = town[number]
        for ask in range(100):
            kind = KINDS[ask % 5]
            self.assertEqual(ask, getattr(house, kind)(*args_of(kind, ())))
        return town

    def check(self, house):
        for kind in KINDS:
            for name in ((), ("a",)):
                refused(self, house, Full, kind, *args_of(kind, name))
            refused(self, house, BadName, kind, *args_of(kind, ("A",)))
            refused(self, house, BadName, kind, *args_of(kind, None))
        refused(self, house, BadNumber, "put", (), 1000)
        refused(self, house, BadNumber, "put", (), True)

    def test_a_hundred_asks_and_one_more(self):
        for number in (0, 1):
            town = self.full(number)
            self.check(town[number])
            town.rest(100)
            self.assertEqual(list(range(100)), [ask for ask, _ in town[number].answers()])
            self.check(town[number])

    def test_each_house_has_a_hundred_of_its_own(self):
        town = self.full(1)
        self.assertEqual(0, town[0].look(()))
        town.rest(101)
        self.assertEqual(1, len(town[0].answers()))

    def test_a_refused_leave_lets_go_of_nothing(self):
        town = Town(2)
        for _ in range(100):
            town[1].copy(())
        town.rest(100)
        self.assertEqual([((), 0)], town[1].copies())
        refused(self, town[1], Full, "leave", ())
        town[0].put((), 4)
        town.rest(1)
        self.assertEqual([((), 1)], town[1].copies())

    def test_a_refused_copy_brings_nothing(self):
        town = Town(2)
        for _ in range(100):
            town[1].leave(())
        refused(self, town[1], Full, "copy", ())
        town.rest(100)
        self.assertEqual([], town[1].copies())


class PartsTest(unittest.TestCase):
    def setUp(self):
        self.town = settled()

    def test_cut(self):
        zero, one, two = self.town.houses
        for root in ((), ("a", "a")):
            refused(self, zero, BadCut, "cut", root)
            refused(self, one, NotHome, "cut", root)
            refused(self, two, NotHome, "cut", root)
        refused(self, one, BadCut, "cut", ("a",))
        for root in (("a",), ("a", "b"), ("a", "b", "c")):
            refused(self, zero, NotHome, "cut", root)
            refused(self, two, NotHome, "cut", root)
        for root in (("b",), ("a", "a", "a"), ("a", "a", "b")):
            refused(self, one, NotHome, "cut", root)
        for root in (("b",), ("a", "a", "a")):
            zero.cut(root)
        one.cut(("a", "b"))

    def test_move(self):
        zero, one, two = self.town.houses
        for root in ((), ("a", "a")):
            for to in (0, 1, 2, 3, -1, True):
                refused(self, one, NotHome, "move", root, to)
                refused(self, two, NotHome, "move", root, to)
            for to in (0, 3, 4, -1, -3, 10 ** 30, -10 ** 30, True, False):
                refused(self, zero, BadHouse, "move", root, to)
        for to in (1, 3, True, False):
            refused(self, one, BadHouse, "move", ("a",), to)
        for root in (("b",), ("a", "a", "a"), ("a",)):
            refused(self, zero, NotHome, "move", root, 1)
            refused(self, zero, NotHome, "move", root, 9)
        refused(self, zero, BadName, "move", ("A",), 9)
        refused(self, zero, BadName, "move", True, 0)
        zero.move((), 2)
        zero.move(("a", "a"), 1)

    def test_move_knows_how_many_houses_there_are(self):
        for many in range(2, 7):
            refused(self, House(0, many), BadHouse, "move", (), many)
            House(0, many).move((), many - 1)

    def test_entries(self):
        zero, one, two = self.town.houses
        for house in (one, two):
            for root in ((), ("a", "a"), ("b",)):
                refused(self, house, NotHome, "entries", root)
        for root in (("a",), ("a", "a", "a"), ("b",)):
            refused(self, zero, NotHome, "entries", root)
        # House 2 has a copy of this one, but is not its home.
        refused(self, two, NotHome, "entries", ("a",))

    def test_what_moved_is_at_home_nowhere_till_its_letter_came(self):
        zero, one, two = self.town.houses
        zero.move((), 2)
        for house in self.town.houses:
            refused(self, house, NotHome, "entries", ())
            refused(self, house, NotHome, "cut", ("b",))
            refused(self, house, NotHome, "cut", ())
            refused(self, house, NotHome, "move", (), 1)
        self.town.rest()
        two.entries(())
        two.cut(("b",))
        refused(self, two, BadCut, "cut", ())
        two.move((), 1)

    def test_a_cut_and_a_move_told_twice(self):
        zero = self.town[0]
        zero.cut(("b",))
        ahead = all_tells(zero)
        refused(self, zero, BadCut, "cut", ("b",))
        self.assertEqual(ahead, all_tells(zero))
        zero.move(("b",), 2)
        refused(self, zero, NotHome, "move", ("b",), 2)
        refused(self, zero, NotHome, "cut", ("b",))
        self.town.rest()
        self.assertEqual([(("b",), 1, 6)], self.town[2].parts())


if __name__ == "__main__":
    unittest.main()

"""Promises 8, 10 and 11: letters, how an ask is sent on, and rest."""

import unittest

from tests.town import ENDLESS, Town


def to(letters, number):
    return [row for row in letters if row[0] == number]


def path(town, number):
    """By which houses the ask of this house goes, if each letter is heard that is told of it."""
    letters = town.collect(number)
    houses = []
    while letters and len(houses) < ENDLESS:
        answered = len(town[number].answers())
        houses.append(letters[0][0])
        letters = town.hear(*letters[0])
        if len(town[number].answers()) > answered:
            return houses
    return houses


class LettersTest(unittest.TestCase):
    def test_kinds(self):
        town = Town(3)
        town[0].cut(("a",))
        town[0].move(("a",), 1)
        town[2].put(("a",), 1)
        for house in town.houses:
            letters = house.letters()
            self.assertIsInstance(letters, list)
            for row in letters:
                self.assertIsInstance(row, tuple)
                self.assertEqual(2, len(row))
                self.assertIn(row[0], (0, 1, 2))
                self.assertIsInstance(town[row[0]].hear(row[1]), list)

    def test_nothing_is_told_where_nothing_is_to_tell(self):
        for many in range(2, 7):
            town = Town(many)
            self.assertEqual(0, town.round())
            town[0].cut(("a",))
            town[0].look(("a",))
            town.rest(1)
            for house in town.houses:
                self.assertEqual([], house.letters())

    def test_an_ask_is_told_again_until_it_is_answered(self):
        town = Town(2)
        town[1].look(())
        for _ in range(5):
            self.assertEqual(1, len(to(town[1].letters(), 0)))
        # The answer is lost.
        for row in town.collect(1):
            town.hear(*row)
        self.assertEqual(1, len(to(town[1].letters(), 0)))
        town.rest(1)
        self.assertEqual([], town[1].letters())

    def test_a_copy_is_told_again_until_it_came(self):
        town = Town(2)
        town[1].copy(())
        town.rest(1)
        town[0].put((), 1)
        town.deliver(town.collect(0))
        for _ in range(5):
            self.assertEqual(1, len(to(town[0].letters(), 1)))
        town.rest(1)
        self.assertEqual([], town[0].letters())

    def test_letters_of_the_own_house(self):
        town = Town(2)
        town[0].put(("a",), 4)
        town[0].copy(())
        town.rest(2)
        self.assertEqual([(0, ("done", (), 1)), (1, ("done", (), 1))], town[0].answers())
        self.assertEqual([((), 1)], town[0].copies())


class PathTest(unittest.TestCase):
    def test_to_the_house_known_for_the_longest_root(self):
        town = Town(4)
        town[0].cut(("a",))
        town[0].cut(("a", "b"))
        town[0].move(("a",), 1)
        town[0].move(("a", "b"), 2)
        town.rest()
        for name, houses in [((), [0]), (("b",), [0]), (("a",), [0, 1]), (("a", "c"), [0, 1]),
                             (("a", "b"), [0, 2]), (("a", "b", "c"), [0, 2])]:
            asker = Town(4)
            asker.houses[:3] = town.houses[:3]
            asker[3].look(name)
            self.assertEqual(houses, path(asker, 3)[:len(houses)], name)

    def test_by_a_longer_root_from_house_to_house(self):
        """Each home moved on alone and cut off the next branch where the next house was home."""
        town = Town(5)
        name = ("a", "b", "c", "d", "e")
        for number in range(4):
            town[number].cut(name[:number + 1])
            town[number].move(name[:number + 1], number + 1)
            town.deliver(town.collect(number))
        town[0].look(name)
        houses = path(town, 0)
        self.assertEqual([1, 2, 3, 4], houses[:4])
        town.rest(1)
        self.assertEqual([(0, ("is", name[:4], 4, None))], town[0].answers())

    def test_by_greater_turns(self):
        town = Town(6)
        for number in range(4):
            town[number].move((), number + 1)
            town.deliver(town.collect(number))
        town[5].look(("a",))
        houses = path(town, 5)
        self.assertEqual([0, 1, 2, 3, 4], houses[:5])
        self.assertEqual(1, len(town[5].answers()))

    def test_never_in_a_ring(self):
        """House 1 gave the part back, but its letter is under way: 0 and 1 each know the other."""
        town = Town(3)
        town[0].move((), 1)
        town.deliver(town.collect(0))
        town[1].move((), 0)
        late = town.collect(1)
        town[2].put(("a",), 1)
        town[1].put(("a",), 2)
        self.assertEqual([0, 1, 0], path(town, 2))
        self.assertEqual([0], path(town, 1)[:1])
        for _ in range(3):
            self.assertLess(town.deliver(to(town.collect(2), 0)), 10)
        self.assertEqual([], town[2].answers() + town[1].answers())
        town.deliver(late)
        town.rest(2)
        self.assertEqual([((), 2, 2)], town[0].parts())

    def test_an_ask_waits_at_a_house_to_which_the_part_is_under_way(self):
        town = Town(3)
        town[0].move((), 1)
        late = town.collect(0)
        town[2].put(("a",), 1)
        self.assertEqual([0, 1], path(town, 2))
        town[0].put(("a",), 2)
        self.assertEqual([1], path(town, 0))
        self.assertEqual([], town[2].answers() + town[0].answers())
        town.deliver(late)
        town.rest(2)
        self.assertEqual(1, len(town[2].answers()))
        self.assertEqual([((), 1, 2)], town[1].parts())

    def test_an_ask_of_an_old_turn_finds_its_way(self):
        """The part was at each house more than once; the asker still knows the first home alone."""
        town = Town(4)
        for turn in range(1, 30):
            home = [row for row in range(3) if town[row].parts()][0]
            town[home].move((), (home + 1 + turn % 2) % 3)
            town.deliver(town.collect(home))
        town[3].look(())
        self.assertEqual(0, path(town, 3)[0])
        self.assertEqual(1, len(town[3].answers()))
        self.assertLessEqual(len(path(town, 3)), 5)


class RestTest(unittest.TestCase):
    def test_a_hundred_asks_of_each_house(self):
        for many in (2, 6):
            town = Town(many)
            for ask in range(100):
                for number, house in enumerate(town.houses):
                    name = (("a", "b", "c")[ask % 3],)
                    [house.look, house.drop, house.copy, house.leave][(ask + number) % 4](name)
            for root in (("a",), ("b",)):
                town[0].cut(root)
                town[0].move(root, 1)
            town.rest(100 * many)
            for house in town.houses:
                self.assertEqual(100, len(house.answers()))
                self.assertEqual([], house.letters())

    def test_without_asks_in_ten_rounds(self):
        town = Town(6)
        for label in "abcde":
            town[0].cut((label,))
        for at, label in enumerate("abcde"):
            town[0].move((label,), at + 1)
        town[0].move((), 5)
        town.rest()
        for number in range(1, 5):
            self.assertEqual([(("abcde"[number - 1],), 1, number)], town[number].parts())
        self.assertEqual([((), 1, 5), (("e",), 1, 5)], town[5].parts())

    def test_one_ask_in_eleven_rounds_whoever_asks_it(self):
        for number in range(6):
            town = Town(6)
            for home in range(5):
                town[home].move((), home + 1)
                town.deliver(town.collect(home))
            town[number].copy(())
            town.rest(1)
            self.assertEqual([(0, ("done", (), 0))], town[number].answers())
            self.assertEqual([((), 0)], town[number].copies())


if __name__ == "__main__":
    unittest.main()

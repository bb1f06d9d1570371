"""Promises 7 and 1: what a house tells, in which order, and that nothing comes of changing it."""

import unittest

from tests.town import NAMES, Town, all_tells


def spread():
    """Four parts: () at house 1, ("b",) and ("a", "b") at house 0, ("a",) at house 2; copies at all."""
    town = Town(3)
    for name in (("b",), ("a", "b"), ("a",), ("a", "b", "a"), (), ("zz",), ("a", "a")):
        town[0].put(name, len(name))
    town.rest(7)
    town[0].cut(("b",))
    town[0].cut(("a", "b"))
    town[0].cut(("a",))
    town[0].move(("a",), 2)
    town[0].move((), 1)
    town.rest()
    for house in town.houses:
        for root in (("b",), (), ("a", "b"), ("a",)):
            house.copy(root)
    return town.rest(12)


class OrderTest(unittest.TestCase):
    def test_rising_lists(self):
        town = spread()
        self.assertEqual([(("a", "b"), 0, 9), (("b",), 0, 8)], town[0].parts())
        self.assertEqual([((), 1, 10)], town[1].parts())
        self.assertEqual([(("a",), 1, 10)], town[2].parts())
        self.assertEqual([((), 0), (("zz",), 1)], town[1].entries(()))
        self.assertEqual([(("a",), 1), (("a", "a"), 2)], town[2].entries(("a",)))
        self.assertEqual([(("a", "b"), 2), (("a", "b", "a"), 3)], town[0].entries(("a", "b")))
        copies = [((), 10), (("a",), 10), (("a", "b"), 9), (("b",), 8)]
        for house in town.houses:
            self.assertEqual(copies, house.copies())
        knows = [((), 1, 1), (("a",), 1, 2), (("a", "b"), 0, 0), (("b",), 0, 0)]
        self.assertEqual(knows, town[0].knows())
        self.assertEqual([(0, ("done", ("b",), 8)), (1, ("done", (), 10)), (2, ("done", ("a", "b"), 9)),
                          (3, ("done", ("a",), 10))], town[1].answers())

    def test_entries_rise_whatever_came_first(self):
        town = Town(2)
        names = [("c",), ("b", "a"), ("b",), ("ab",), ("a", "z"), ("aa",), (), ("a",), ("a", "a", "a")]
        for at, name in enumerate(names):
            town[1].put(name, 100 - at)
        town.rest(9)
        rows = [((), 94), (("a",), 93), (("a", "a", "a"), 92), (("a", "z"), 96), (("aa",), 95),
                (("ab",), 97), (("b",), 98), (("b", "a"), 99), (("c",), 100)]
        self.assertEqual(rows, town[0].entries(()))

    def test_knows_the_greatest_turn_heard_of(self):
        town = Town(4)
        first = []
        for turn, (home, to) in enumerate([(0, 1), (1, 2), (2, 0), (0, 3)], 1):
            town[home].move((), to)
            letters = town.collect(home)
            first.extend(letters)
            for row in letters:
                town.hear(*row)
            self.assertIn(((), turn, to), town[home].knows())
            self.assertIn(((), turn, to), town[to].knows())
        for row in first:
            town.hear(*row)
        self.assertEqual([((), 4, 3)], town[0].knows())
        self.assertEqual([((), 4, 3)], town[3].knows())
        self.assertGreaterEqual(town[1].knows()[0][1], 2)
        self.assertGreaterEqual(town[2].knows()[0][1], 3)


    def test_knows_what_answers_and_copies_tell_of(self):
        town = Town(3)
        town[0].cut(("a",))
        town[0].cut(("b",))
        town[0].move(("a",), 1)
        town[0].move(("b",), 1)
        town.rest()
        self.assertEqual([((), 0, 0)], town[2].knows())
        town[2].look(("a", "a"))
        town[2].copy(("b",))
        town.rest(2)
        self.assertEqual([((), 0, 0), (("a",), 1, 1), (("b",), 1, 1)], town[2].knows())


class OldTest(unittest.TestCase):
    def test_of_parts_at_home(self):
        town = Town(2)
        town[0].put(("a", "b"), 0)
        town.rest(1)
        self.assertEqual(((), 1, 0), town[0].old(("a", "b")))
        self.assertEqual(((), 1, None), town[0].old(("a",)))
        town[0].cut(("a",))
        self.assertEqual((("a",), 2, 0), town[0].old(("a", "b")))
        self.assertEqual((("a",), 2, None), town[0].old(("a",)))
        self.assertEqual(((), 2, None), town[0].old(()))
        town[0].move(("a",), 1)
        for name in (("a",), ("a", "b"), ("a", "b", "c", "d", "e")):
            self.assertIsNone(town[0].old(name))
        self.assertEqual(((), 2, None), town[0].old(("ab",)))
        self.assertIsNone(town[1].old(("a",)))
        town.rest()
        self.assertEqual((("a",), 2, 0), town[1].old(("a", "b")))
        self.assertIsNone(town[1].old(()))

    def test_of_copies_by_their_mark(self):
        """House 1's copy is of a time ahead of the cut, and still has the branch's names."""
        town = Town(3)
        town[0].put(("a", "b"), 7)
        town.rest(1)
        town[1].copy(())
        town.rest(1)
        town[0].cut(("a",))
        self.assertEqual([((), 1)], town[1].copies())
        self.assertEqual(((), 1, 7), town[1].old(("a", "b")))
        town.rest()
        self.assertEqual([((), 2)], town[1].copies())
        self.assertIsNone(town[1].old(("a", "b")))
        self.assertEqual(((), 2, None), town[1].old(("b",)))

    def test_the_longest_root_of_parts_and_copies(self):
        town = spread()
        for house in town.houses:
            self.assertEqual(((), 10, 1), house.old(("zz",)))
            self.assertEqual((("a",), 10, 2), house.old(("a", "a")))
            self.assertEqual((("a", "b"), 9, 3), house.old(("a", "b", "a")))
            self.assertEqual((("b",), 8, None), house.old(("b", "c")))
        town[1].leave(("a", "b"))
        # Its copy of ("a",) is the longest now, from which that was cut off.
        self.assertIsNone(town[1].old(("a", "b", "a")))
        self.assertEqual((("a",), 10, 1), town[1].old(("a",)))

    def test_a_longer_copy_is_told_ahead_of_a_shorter_part(self):
        town = Town(2)
        town[0].cut(("a",))
        town[0].move(("a",), 1)
        town[0].copy(("a",))
        town.rest(1)
        town[1].put(("a", "a"), 5)
        town.rest(1)
        self.assertEqual((("a",), 2, 5), town[0].old(("a", "a")))
        self.assertEqual(((), 1, None), town[0].old(("b",)))

    def test_a_part_that_it_has_both_ways_is_told_as_its_home(self):
        town = Town(2)
        town[0].copy(())
        town.rest(1)
        self.assertEqual([((), 0)], town[0].copies())
        # One by one the letters are heard: the copy lags behind, the home doesn't.
        town[0].put(("a",), 3)
        seen = []
        town.behind = lambda house: seen.append((town[0].parts()[0][2], town[0].old(("a",))))
        town.rest(1)
        self.assertIn((1, ((), 1, 3)), seen)
        for mark, told in seen:
            self.assertEqual(((), mark, 3 if mark else None), told)
        town[0].cut(("b",))
        self.assertEqual([((), 0, 2), (("b",), 0, 2)], town[0].parts())
        self.assertEqual([((), 1)], town[0].copies())
        self.assertEqual(((), 2, 3), town[0].old(("a",)))
        self.assertEqual((("b",), 2, None), town[0].old(("b",)))

    def test_what_left_its_home_is_told_by_its_copy(self):
        town = Town(2)
        town[0].put((), 8)
        town[0].copy(())
        town.rest(2)
        town[0].move((), 1)
        self.assertEqual(((), 1, 8), town[0].old(()))


class TellsTest(unittest.TestCase):
    def towns(self):
        fresh = Town(2)
        under_way = spread()
        under_way[1].move((), 0)
        under_way[2].put(("b",), 9)
        under_way[0].drop(("a",))
        return [fresh, spread(), under_way]

    def test_the_same_question_twice(self):
        for town in self.towns():
            for house in town.houses:
                ahead = all_tells(house)
                for _ in range(3):
                    self.assertEqual(ahead, all_tells(house))

    def test_lists_are_changed_by_whoever_has_them(self):
        for town in self.towns():
            for house in town.houses:
                ahead = all_tells(house)
                for _ in range(2):
                    lists = [house.answers(), house.parts(), house.copies(), house.knows(), house.letters()]
                    lists += [house.entries(root) for root, _, _ in house.parts()]
                    for told in lists:
                        told.append("more")
                        told.reverse()
                        told.clear()
                    self.assertEqual(ahead, all_tells(house))

    def test_lists_told_by_hear_are_changed(self):
        town = spread()
        town[1].put(("a", "c"), 1)
        letters = town.collect(1)
        told = [house_letters for to, letter in letters for house_letters in [town[to].hear(letter)]]
        for letters in told:
            letters.clear()
        town.rest(1)
        self.assertEqual(1, dict(town[2].entries(("a",)))[("a", "c")])

    def test_houses_share_nothing(self):
        town, other = spread(), spread()
        ahead = [all_tells(house) for house in other.houses]
        town[0].put(("b",), 500)
        town[0].cut(("a", "b", "c"))
        town[1].move((), 2)
        town.rest(1)
        self.assertEqual(ahead, [all_tells(house) for house in other.houses])
        self.assertNotEqual(ahead, [all_tells(house) for house in town.houses])

    def test_what_a_part_was_stays_with_its_letters(self):
        """A letter of a move isn't changed by what the part goes through behind it."""
        town = Town(2)
        town[0].put(("a",), 1)
        town.rest(1)
        town[0].move((), 1)
        letter = town.collect(0)
        town.deliver(letter)
        town[1].put(("a",), 2)
        town[1].cut(("b",))
        town.rest(1)
        ahead = [all_tells(house) for house in town.houses]
        town.deliver(letter)
        self.assertEqual(ahead, [all_tells(house) for house in town.houses])

    def test_names_are_not_changed(self):
        town = spread()
        names = list(NAMES)
        for name in names:
            town[0].look(name)
            town[0].old(name)
        self.assertEqual(NAMES, names)


if __name__ == "__main__":
    unittest.main()

"""Promises 2 to 4: what a part has, at first and behind cut and move; its marks and turns."""

import unittest

from headbook.houses import House
from tests.town import Town


def filled():
    """() with six numbers, all put by house 0."""
    town = Town(3)
    rows = [((), 1), (("a",), 2), (("a", "b"), 3), (("a", "b", "c"), 4), (("ab",), 5), (("b", "a"), 6)]
    for name, number in rows:
        town[0].put(name, number)
    return town.rest(6)


class FirstTest(unittest.TestCase):
    def test_house_0_is_home_of_all(self):
        for many in range(2, 7):
            for number in range(many):
                house = House(number, many)
                self.assertEqual([((), 0, 0)] if number == 0 else [], house.parts())
                self.assertEqual([((), 0, 0)], house.knows())
                self.assertEqual([], house.copies())
                self.assertEqual([], house.answers())
                self.assertEqual([], house.letters())
                self.assertEqual(((), 0, None) if number == 0 else None, house.old(("a",)))
        self.assertEqual([], House(0, 2).entries(()))


class CutTest(unittest.TestCase):
    def test_the_branch_has_all_names_under_its_root(self):
        town = filled()
        self.assertEqual([((), 0, 6)], town[0].parts())
        self.assertIsNone(town[0].cut(("a",)))
        self.assertEqual([((), 0, 7), (("a",), 0, 7)], town[0].parts())
        self.assertEqual([((), 1), (("ab",), 5), (("b", "a"), 6)], town[0].entries(()))
        self.assertEqual([(("a",), 2), (("a", "b"), 3), (("a", "b", "c"), 4)], town[0].entries(("a",)))
        self.assertEqual([((), 0, 0), (("a",), 0, 0)], town[0].knows())

    def test_marks_part_ways(self):
        town = filled()
        town[0].cut(("a",))
        town[0].put(("a", "zz"), 7)
        town[0].put(("a", "zz"), 8)
        town[0].put(("c",), 9)
        town.rest(3)
        self.assertEqual([((), 0, 8), (("a",), 0, 9)], town[0].parts())
        town[0].cut(("a", "b"))
        self.assertEqual([((), 0, 8), (("a",), 0, 10), (("a", "b"), 0, 10)], town[0].parts())
        self.assertEqual([(("a",), 2), (("a", "zz"), 8)], town[0].entries(("a",)))

    def test_a_branch_cut_off_above_another(self):
        town = filled()
        town[0].cut(("a", "b"))
        town[0].cut(("a",))
        self.assertEqual([((), 0, 8), (("a",), 0, 8), (("a", "b"), 0, 7)], town[0].parts())
        self.assertEqual([(("a",), 2)], town[0].entries(("a",)))
        self.assertEqual([(("a", "b"), 3), (("a", "b", "c"), 4)], town[0].entries(("a", "b")))
        # ("a", "b") is cut off from ("a",), too, wherever that goes.
        town[0].move(("a",), 1)
        town[0].move(("a", "b"), 2)
        town.rest()
        self.assertIsNone(town[1].old(("a", "b")))
        self.assertIsNone(town[1].old(("a", "b", "x")))
        self.assertEqual((("a",), 8, None), town[1].old(("a", "c")))
        town[0].put(("a", "b"), 30)
        town[0].put(("a", "c"), 40)
        town.rest(2)
        self.assertEqual(("done", ("a", "b"), 8), town[0].answers()[-2][1])
        self.assertEqual(("done", ("a",), 9), town[0].answers()[-1][1])

    def test_a_branch_without_names(self):
        town = Town(2)
        town[0].cut(("a", "b", "c", "d", "e"))
        self.assertEqual([((), 0, 1), (("a", "b", "c", "d", "e"), 0, 1)], town[0].parts())
        self.assertEqual([], town[0].entries(("a", "b", "c", "d", "e")))

    def test_at_another_home_and_of_a_part_that_moved(self):
        town = filled()
        town[0].move((), 2)
        town.rest()
        town[2].cut(("a",))
        self.assertEqual([((), 1, 7), (("a",), 0, 7)], town[2].parts())
        self.assertEqual([((), 1, 2), (("a",), 0, 2)], town[2].knows())


class MoveTest(unittest.TestCase):
    def test_a_move_takes_all_along(self):
        town = filled()
        town[0].cut(("a", "b"))
        entries = town[0].entries(())
        self.assertIsNone(town[0].move((), 2))
        self.assertEqual([(("a", "b"), 0, 7)], town[0].parts())
        self.assertEqual([((), 1, 2), (("a", "b"), 0, 0)], town[0].knows())
        self.assertEqual([], town[2].parts())
        town.rest()
        self.assertEqual([((), 1, 7)], town[2].parts())
        self.assertEqual(entries, town[2].entries(()))
        self.assertIsNone(town[2].old(("a", "b")))
        self.assertEqual([((), 1, 2), (("a", "b"), 0, 0)], town[2].knows())

    def test_home_is_when_the_letter_came(self):
        town = filled()
        town[0].move((), 1)
        letters = [letter for to, letter in town[0].letters() if to == 1]
        self.assertEqual([], town[1].parts())
        for letter in letters:
            town[1].hear(letter)
        self.assertEqual([((), 1, 6)], town[1].parts())

    def test_turns_count_moves_and_not_marks(self):
        town = filled()
        for turn in range(1, 12):
            town[(turn - 1) % 3].move((), turn % 3)
            town.rest()
            self.assertEqual([((), turn, 6)], town[turn % 3].parts())
            self.assertIn(((), turn, turn % 3), town[(turn - 1) % 3].knows())

    def test_a_late_letter_of_a_move_brings_no_part_back(self):
        town = filled()
        town[0].move((), 1)
        first = town.collect(0)
        town.rest()
        town[1].move((), 0)
        second = town.collect(1)
        town.deliver(first)
        self.assertEqual([], town[1].parts())
        town.deliver(second)
        town[0].put(("n",), 9)
        town.rest(1)
        for letters in (second, first, second, town.told):
            town.deliver(list(letters))
            self.assertEqual([], town[1].parts())
            self.assertEqual([((), 2, 7)], town[0].parts())
        town[0].move((), 2)
        for letters in (second, first, town.told):
            town.deliver(list(letters))
            self.assertEqual([], town[0].parts() + town[1].parts())
        town.rest()
        self.assertEqual([((), 3, 7)], town[2].parts())

    def test_a_move_whose_letter_is_lost_is_told_again(self):
        town = filled()
        town[0].move((), 1)
        for _ in range(5):
            self.assertIn(1, [to for to, _ in town[0].letters()])
        town.rest()
        self.assertEqual([((), 1, 6)], town[1].parts())
        self.assertEqual([], town[0].letters())

    def test_a_branch_moves_alone(self):
        town = filled()
        town[0].cut(("a",))
        town[0].move(("a",), 1)
        town.rest()
        self.assertEqual([((), 0, 7)], town[0].parts())
        self.assertEqual([(("a",), 1, 7)], town[1].parts())
        self.assertEqual([(("a",), 2), (("a", "b"), 3), (("a", "b", "c"), 4)], town[1].entries(("a",)))


if __name__ == "__main__":
    unittest.main()

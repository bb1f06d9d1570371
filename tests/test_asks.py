"""Promises 5 and 6: asks, their answers in turn, each done once; copies and leaving them."""

import unittest

from tests.town import Town


def answers(house):
    return [answer for _, answer in house.answers()]


class AnswersTest(unittest.TestCase):
    def test_each_form_at_home_and_from_afar(self):
        for number in (0, 1, 2):
            town = Town(3)
            house = town[number]
            name = ("a", "b")
            asked = [
                house.look(name), house.put(name, 7), house.look(name), house.put(name, 7),
                house.put(name, 0), house.look(name), house.copy(()), house.copy(("a",)),
                house.leave(("a",)), house.drop(name), house.drop(name), house.look(name),
                house.leave(()), house.look(()),
            ]
            self.assertEqual(list(range(14)), asked)
            town.rest(14)
            self.assertEqual([
                (0, ("is", (), 0, None)), (1, ("done", (), 1)), (2, ("is", (), 1, 7)),
                (3, ("done", (), 2)), (4, ("done", (), 3)), (5, ("is", (), 3, 0)),
                (6, ("done", (), 3)), (7, ("noroot", (), 3)), (8, ("noroot", (), 3)),
                (9, ("done", (), 4)), (10, ("lacks", (), 4)), (11, ("is", (), 4, None)),
                (12, ("done", (), 4)), (13, ("is", (), 4, None)),
            ], house.answers())
            self.assertEqual([((), 0, 4)], town[0].parts())

    def test_the_answer_tells_the_root_of_the_part_in_which_the_name_lies(self):
        town = Town(2)
        town[0].cut(("a",))
        town[0].cut(("a", "b"))
        for name in (("a",), ("a", "b"), ("a", "b", "c"), ("a", "c"), ("ab",), ("b",), ()):
            town[1].look(name)
        town.rest(7)
        self.assertEqual(
            [("a",), ("a", "b"), ("a", "b"), ("a",), (), (), ()], [answer[1] for answer in answers(town[1])])

    def test_numbers_count_for_each_house_and_not_for_refused_asks(self):
        town = Town(2)
        self.assertEqual(0, town[0].look(()))
        with self.assertRaises(ValueError):
            town[0].put((), 1000)
        self.assertEqual(0, town[1].drop(()))
        self.assertEqual(1, town[0].put((), 1))
        self.assertEqual(1, town[1].leave(()))

    def test_answers_never_change(self):
        town = Town(3)
        town[1].put(("a",), 1)
        town[1].look(("a",))
        town.rest(2)
        ahead = town[1].answers()
        self.assertEqual([(0, ("done", (), 1)), (1, ("is", (), 1, 1))], ahead)
        town[0].put(("a",), 2)
        town.rest(1)
        town[0].cut(("a",))
        town[0].move(("a",), 1)
        town[1].look(("a",))
        town.rest(2)
        self.assertEqual(ahead + [(2, ("is", ("a",), 3, 2))], town[1].answers())
        town.deliver(list(town.told))
        self.assertEqual(ahead + [(2, ("is", ("a",), 3, 2))], town[1].answers())

    def test_in_turn_each_when_all_ahead_were_answered(self):
        """The second ask is for a part at hand; it waits for the first, whose letters are lost."""
        town = Town(2)
        town[0].cut(("a",))
        town[0].move(("a",), 1)
        town.rest()
        for _ in range(2):
            town[1].look(())
        town[1].put(("a",), 5)
        for _ in range(5):
            for to, letter in town.collect(1):
                if to == 1:
                    town.deliver([(to, letter)])
        self.assertEqual([], town[1].answers())
        self.assertEqual([], town[1].entries(("a",)))
        town.rest(3)
        self.assertEqual(
            [("is", (), 1, None), ("is", (), 1, None), ("done", ("a",), 2)], answers(town[1]))

    def test_one_letter_does_one_ask_at_the_most(self):
        for number in (0, 1):
            town = Town(2)
            marks = [0]
            town.behind = lambda house: marks.extend([row[2] for row in town[0].parts()])
            for worth in range(50):
                town[number].put(("a",), worth)
                marks.extend([row[2] for row in town[0].parts()])
            town.rest(50)
            self.assertEqual(list(range(51)), sorted(set(marks)))
            self.assertEqual(sorted(marks), marks)
            for ahead, mark in zip(marks, marks[1:]):
                self.assertLessEqual(mark - ahead, 1)


class OnceTest(unittest.TestCase):
    def test_letters_twice(self):
        town = Town(2)
        town[1].put(("a",), 1)
        letters = town.collect(1)
        for _ in range(4):
            for to, letter in letters:
                town.hear(to, letter)
        self.assertEqual([((), 0, 1)], town[0].parts())
        town.rest(1)
        self.assertEqual([(0, ("done", (), 1))], town[1].answers())

    def test_an_old_ask_undoes_nothing(self):
        town = Town(2)
        town[1].put(("a",), 1)
        first = town.collect(1)
        town.rest(1)
        town[1].put(("a",), 2)
        town[1].drop(("b",))
        town.rest(2)
        town.deliver(first)
        self.assertEqual([(("a",), 2)], town[0].entries(()))
        self.assertEqual([((), 0, 2)], town[0].parts())

    def test_an_ask_that_was_done_ahead_of_a_move_and_a_cut(self):
        """Its answer is lost; it is told again when its name lies in another part elsewhere."""
        town = Town(3)
        town[1].put(("a", "b"), 1)
        for to, letter in town.collect(1):
            town.hear(to, letter)
        self.assertEqual([((), 0, 1)], town[0].parts())
        town[0].move((), 2)
        town.deliver(town.collect(0))
        town[2].cut(("a",))
        town[2].move(("a",), 0)
        town.deliver(town.collect(2))
        town[0].cut(("a", "b"))
        town[0].move(("a", "b"), 2)
        town.deliver(town.collect(0))
        town.rest(1)
        self.assertEqual([(0, ("done", (), 1))], town[1].answers())
        self.assertEqual([(("a",), 1, 3)], town[0].parts())
        self.assertEqual([((), 1, 2), (("a", "b"), 1, 3)], town[2].parts())
        self.assertEqual([(("a", "b"), 1)], town[2].entries(("a", "b")))

    def test_a_part_that_moves_round_while_asks_for_it_are_under_way(self):
        """All letters of asks come late, at many homes; letters of moves come a turn late, too."""
        for many in range(2, 7):
            town = Town(many)
            for house in town.houses:
                for worth in range(3):
                    house.put(("a",), worth)
                    house.drop(("a",))
            asks = [row for number in range(many) for row in town.collect(number)]
            late = []
            home = 0
            for turn in range(1, 40):
                to = (home + 1 + turn % (many - 1)) % many
                town[home].move((), to)
                for row in asks + late[-1:]:
                    asks = (asks + town.hear(*row))[-4 * many:]
                moves = [row for row in town.collect(home) if row[0] == to]
                for row in moves:
                    town.hear(*row)
                late.extend(moves)
                home = to
                self.assertEqual(turn, town[home].parts()[0][1])
            town.rest(6 * many)
            done = [answer for house in town.houses for answer in answers(house) if answer[0] == "done"]
            self.assertEqual(6 * many, sum([len(house.answers()) for house in town.houses]))
            self.assertEqual(list(range(1, len(done) + 1)), sorted([answer[2] for answer in done]))
            self.assertEqual([((), 39, len(done))], town[home].parts())


class CopiesTest(unittest.TestCase):
    def test_a_copy_follows_its_part(self):
        for number in (0, 1, 2):
            town = Town(3)
            town[number].copy(())
            town.rest(1)
            self.assertEqual([((), 0)], town[number].copies())
            town[0].put(("a",), 3)
            town.rest(1)
            self.assertEqual([((), 1)], town[number].copies())
            self.assertEqual(((), 1, 3), town[number].old(("a",)))
            town[1].drop(("a",))
            town[0].cut(("b",))
            town.rest(1)
            self.assertEqual([((), 3)], town[number].copies())
            self.assertEqual(((), 3, None), town[number].old(("a",)))
            self.assertEqual(number == 0, town[number].old(("b",)) is not None)

    def test_newer_copies_come_from_the_next_homes(self):
        town = Town(4)
        town[3].copy(())
        town.rest(1)
        for home, to in ((0, 1), (1, 2), (2, 3), (3, 0)):
            town[home].move((), to)
            town[1].put(("a",), to)
            town.rest(1)
            self.assertEqual([row[::2] for row in town[to].parts()], town[3].copies())
        self.assertEqual(((), 4, 0), town[3].old(("a",)))

    def test_a_copy_while_the_part_is_under_way(self):
        """What was asked ahead of the move is known at the next home."""
        town = Town(3)
        town[2].copy(())
        for to, letter in town.collect(2):
            town.hear(to, letter)
        town[0].move((), 1)
        town[1].put(("a",), 1)
        town.rest(2)
        self.assertEqual([((), 1)], town[2].copies())

    def test_a_branch_isnt_copied_with_its_part(self):
        town = Town(2)
        town[1].copy(())
        town[0].put(("a",), 1)
        town.rest(2)
        town[0].cut(("a",))
        town[0].put(("a",), 2)
        town.rest(1)
        self.assertEqual([((), 2)], town[1].copies())
        self.assertIsNone(town[1].old(("a",)))

    def test_copies_come_while_copy_is_asked_again(self):
        """The second copy waits behind a look at a part whose letter is under way."""
        town = Town(3)
        town[2].copy(())
        town.rest(1)
        town[0].cut(("a",))
        town[0].move(("a",), 1)
        late = town.collect(0)
        town[2].look(("a",))
        town[2].copy(())
        for worth in range(3):
            town[0].put((), worth)
            for number in (0, 2):
                town.deliver([row for row in town.collect(number) if row not in late])
            town.deliver([row for row in town.collect(0) if row not in late])
            self.assertEqual([((), 2 + worth)], town[2].copies())
        self.assertEqual(1, len(town[2].answers()))
        town.rest(2)
        self.assertEqual(3, len(town[2].answers()))
        self.assertEqual([((), 4)], town[2].copies())

    def test_leave_lets_go_ahead_of_any_answer(self):
        town = Town(2)
        town[1].copy(())
        town.rest(1)
        town[0].put((), 1)
        page = town.collect(0)
        town.rest(1)
        page += town.collect(0)
        self.assertEqual([((), 1)], town[1].copies())
        town[1].leave(())
        self.assertEqual([], town[1].copies())
        self.assertIsNone(town[1].old(()))
        town.deliver(list(town.told))
        self.assertEqual([], town[1].copies())
        town.rest(1)
        town[0].put((), 2)
        town.rest(1)
        self.assertEqual([], town[1].copies())
        self.assertEqual([(0, ("done", (), 0)), (1, ("done", (), 1))], town[1].answers())

    def test_leave_ahead_of_the_answer_of_copy(self):
        town = Town(2)
        town[1].copy(())
        town[1].leave(())
        for _ in range(12):
            town.round()
            self.assertEqual([], town[1].copies())
        self.assertEqual(2, len(town[1].answers()))
        self.assertEqual(0, town.round())

    def test_copy_asked_anew(self):
        town = Town(2)
        for asks in range(1, 4):
            town[1].copy(())
            town[0].put((), asks)
            town.rest(2)
            self.assertEqual([((), asks)], town[1].copies())
            town[1].leave(())
            town.rest(1)
            self.assertEqual([], town[1].copies())
        town[1].copy(())
        town[1].leave(())
        town[1].copy(())
        town.rest(3)
        self.assertEqual([((), 3)], town[1].copies())

    def test_the_mark_never_falls_even_if_it_was_left_between(self):
        town = Town(2)
        town[1].copy(())
        town.rest(1)
        for worth in range(3):
            town[0].put((), worth)
            town.rest(1)
        old = list(town.told)
        town[1].leave(())
        town[1].copy(())
        for to, letter in old:
            town.hear(to, letter)
            self.assertIn(town[1].copies(), ([], [((), 3)]))
        town.rest(2)
        self.assertEqual([((), 3)], town[1].copies())
        for to, letter in old:
            town.hear(to, letter)
            self.assertEqual([((), 3)], town[1].copies())

    def test_noroot_brings_none_also_when_it_is_a_root_later(self):
        town = Town(2)
        town[1].copy(("a",))
        town.rest(1)
        self.assertEqual([(0, ("noroot", (), 0))], town[1].answers())
        self.assertEqual([], town[1].copies())
        town[0].cut(("a",))
        town[0].put(("a",), 1)
        town.rest(1)
        town.deliver(list(town.told))
        town.rest(1)
        self.assertEqual([], town[1].copies())
        town[1].copy(("a",))
        town.rest(1)
        self.assertEqual((1, ("done", ("a",), 2)), town[1].answers()[1])
        self.assertEqual([(("a",), 2)], town[1].copies())

    def test_both_again(self):
        town = Town(3)
        for kind in ("copy", "copy", "leave", "leave"):
            getattr(town[2], kind)(())
            town.rest(1)
            self.assertEqual([((), 0)] if kind == "copy" else [], town[2].copies())
        self.assertEqual([("done", (), 0)] * 4, answers(town[2]))

    def test_one_house_that_leaves_takes_nothing_from_another(self):
        town = Town(3)
        town[1].copy(())
        town[2].copy(())
        town.rest(2)
        town[1].leave(())
        town[0].put((), 1)
        town.rest(2)
        self.assertEqual([], town[1].copies())
        self.assertEqual([((), 1)], town[2].copies())


if __name__ == "__main__":
    unittest.main()

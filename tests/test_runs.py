"""Promises 8 to 11 in runs from fixed seeds: letters in any order, late, twice, lost."""

import random
import unittest

from tests.town import NAMES, Town, Watch, tells

RUNS = 150


class Run:
    """One run: events by chance from a seed, under a watch."""

    def __init__(self, case, seed):
        self.case = case
        self.chance = random.Random(seed)
        self.town = Town(2 + seed % 5)
        self.watch = Watch(case, self.town)
        self.under_way = []
        self.asks = 0
        # Runs differ: in some most letters are lost, in some parts hardly stay anywhere.
        self.lost = self.chance.choice([0, 10, 50])
        self.twice = self.chance.choice([0, 20, 60])
        self.late = self.chance.choice([0, 30, 90])
        self.events = ["ask"] * 4 + ["post"] * self.chance.choice([3, 8, 15])
        self.events += ["again"] * self.chance.choice([0, 2])
        self.events += ["cut"] * self.chance.choice([1, 1, 2]) + ["move"] * self.chance.choice([1, 2, 4])

    def percent(self, many):
        return self.chance.randrange(100) < many

    def go(self, many):
        for _ in range(many):
            getattr(self, self.chance.choice(self.events))()
        return self

    def house(self):
        return self.chance.randrange(self.town.many)

    def part(self):
        rows = [(number, row[0]) for number in range(self.town.many) for row in self.town[number].parts()]
        return self.chance.choice(rows) if rows else None

    def ask(self):
        number = self.house()
        if len(self.watch.asked[number]) == 100:
            return
        kind = self.chance.choice(["look", "put", "put", "put", "drop", "drop", "copy", "copy", "leave"])
        names = NAMES
        if kind in ("copy", "leave") and self.percent(70):
            names = sorted(self.watch.homes)
        worth = self.chance.choice([0, 1, 17, 999]) if kind == "put" else None
        self.watch.ask(number, kind, self.chance.choice(names), worth)
        self.asks += 1

    def cut(self):
        branches = [(number, name) for number in range(self.town.many)
                    for root, _, mark in self.town[number].parts()
                    for name in NAMES if name != root and self.watch.lies(root, mark, name)]
        if branches:
            self.watch.cut(*self.chance.choice(branches))

    def move(self):
        part = self.part()
        if part is not None:
            number, root = part
            others = [other for other in range(self.town.many) if other != number]
            self.watch.move(number, root, self.chance.choice(others))

    def post(self):
        self.under_way.extend(self.town.collect(self.house()))
        for _ in range(self.chance.randrange(6)):
            if self.under_way:
                self.hear_one()

    def hear_one(self):
        late = self.percent(self.late)
        at = self.chance.randrange(len(self.under_way)) if late else 0
        to, letter = self.under_way[at]
        if not self.percent(self.twice):
            del self.under_way[at]
        if not self.percent(self.lost):
            self.under_way.extend(self.town.hear(to, letter))

    def again(self):
        """A letter of any earlier time, perhaps heard long ago."""
        if self.town.told:
            self.under_way.extend(self.town.hear(*self.chance.choice(self.town.told)))

    def rest(self):
        self.town.rest(self.asks)
        self.watch.check_rest()
        return self

    def hear_again(self):
        """Letters of any earlier time, and what is told behind them: nothing comes of it."""
        ahead = [tells(house) for house in self.town.houses]
        letters = list(dict.fromkeys(self.town.told))
        self.chance.shuffle(letters)
        for to, letter in letters[:300]:
            self.town.deliver([(to, letter)])
        self.case.assertEqual(ahead, [tells(house) for house in self.town.houses])
        for _ in range(3):
            self.town.round()
        self.case.assertEqual(0, self.town.round())
        self.case.assertEqual(ahead, [tells(house) for house in self.town.houses])


class RunsTest(unittest.TestCase):
    def test_many_runs(self):
        for seed in range(RUNS):
            with self.subTest(seed=seed):
                run = Run(self, seed)
                run.go(run.chance.choice([20, 60, 120, 200])).rest().hear_again()

    def test_runs_that_go_on_behind_rest(self):
        for seed in range(20):
            with self.subTest(seed=seed):
                run = Run(self, 1000 + seed)
                run.go(60).rest().hear_again()
                run.go(60).rest().hear_again()

    def test_runs_in_which_much_happens(self):
        runs = [Run(self, seed).go(200).rest() for seed in range(20)]
        self.assertGreater(sum([len(run.watch.homes) for run in runs]), 60)
        self.assertGreater(sum([len(homes) for run in runs for homes in run.watch.homes.values()]), 300)
        words = [answer[0] for run in runs for house in run.town.houses for _, answer in house.answers()]
        for word in ("is", "done", "lacks", "noroot"):
            self.assertGreater(words.count(word), 20, word)


if __name__ == "__main__":
    unittest.main()

"""Promises 8 to 11 in runs from fixed seeds: letters in any order, late, twice, lost.

Promises 12 to 14 over what the houses of these runs tell.
"""

import random
import unittest

from headbook.logs import behind, judged
from headbook.notes import read, written
from headbook.routes import route
from tests.town import NAMES, Town, Watch, ask_path, longest, tables, tells

RUNS = 150


class Run:
    """One run: events by chance from a seed, under a watch."""

    def __init__(self, case, seed):
        self.case = case
        self.chance = random.Random(seed)
        self.town = Town(2 + seed % 5)
        self.watch = Watch(case, self.town)
        self.under_way = []
        self.asks = 0
        # Runs differ: in some most letters are lost, in some parts hardly stay anywhere.
        self.lost = self.chance.choice([0, 10, 50])
        self.twice = self.chance.choice([0, 20, 60])
        self.late = self.chance.choice([0, 30, 90])
        self.events = ["ask"] * 4 + ["post"] * self.chance.choice([3, 8, 15])
        self.events += ["again"] * self.chance.choice([0, 2])
        self.instants = []
        self.events += ["cut"] * self.chance.choice([1, 1, 2]) + ["move"] * self.chance.choice([1, 2, 4])

    def percent(self, many):
        return self.chance.randrange(100) < many

    def go(self, many):
        for _ in range(many):
            getattr(self, self.chance.choice(self.events))()
            for instant in self.instants:
                instant()
        return self

    def house(self):
        return self.chance.randrange(self.town.many)

    def part(self):
        rows = [(number, row[0]) for number in range(self.town.many) for row in self.town[number].parts()]
        return self.chance.choice(rows) if rows else None

    def ask(self):
        number = self.house()
        if len(self.watch.asked[number]) == 100:
            return
        kind = self.chance.choice(["look", "put", "put", "put", "drop", "drop", "copy", "copy", "leave"])
        names = NAMES
        if kind in ("copy", "leave") and self.percent(70):
            names = sorted(self.watch.homes)
        worth = self.chance.choice([0, 1, 17, 999]) if kind == "put" else None
        self.watch.ask(number, kind, self.chance.choice(names), worth)
        self.asks += 1

    def cut(self):
        branches = [(number, name) for number in range(self.town.many)
                    for root, _, mark in self.town[number].parts()
                    for name in NAMES if name != root and self.watch.lies(root, mark, name)]
        if branches:
            self.watch.cut(*self.chance.choice(branches))

    def move(self):
        part = self.part()
        if part is not None:
            number, root = part
            others = [other for other in range(self.town.many) if other != number]
            self.watch.move(number, root, self.chance.choice(others))

    def post(self):
        self.under_way.extend(self.town.collect(self.house()))
        for _ in range(self.chance.randrange(6)):
            if self.under_way:
                self.hear_one()

    def hear_one(self):
        late = self.percent(self.late)
        at = self.chance.randrange(len(self.under_way)) if late else 0
        to, letter = self.under_way[at]
        if not self.percent(self.twice):
            del self.under_way[at]
        if not self.percent(self.lost):
            self.under_way.extend(self.town.hear(to, letter))

    def again(self):
        """A letter of any earlier time, perhaps heard long ago."""
        if self.town.told:
            self.under_way.extend(self.town.hear(*self.chance.choice(self.town.told)))

    def rest(self):
        self.town.rest(self.asks)
        self.watch.check_rest()
        return self

    # Routes, logs and texts of what the houses tell now

    def routes(self):
        """Each route ends, and where it ends at home, the name lies in a part there."""
        told = tables(self.town.houses)
        for number in range(self.town.many):
            for name in NAMES:
                houses, word = route(told, number, name)
                self.case.assertEqual(number, houses[0])
                self.case.assertLessEqual(max(map(houses.count, houses)), 2)
                if word == "home":
                    self.check_home(self.town[houses[-1]], name)
                else:
                    self.case.assertGreater(len(houses), 1)
                yield number, name, houses, word

    def check_home(self, house, name):
        root = longest(self.watch.homes, name)
        self.case.assertIn(root, [row[0] for row in house.parts()])
        self.case.assertEqual(dict(house.entries(root)).get(name), house.old(name)[2])

    def asks_go_by_routes(self):
        for number, name, houses, word in self.routes():
            asked = len(self.watch.asked[number])
            if asked == len(self.town[number].answers()) and asked < 100:
                self.case.assertEqual((houses, word), ask_path(self.town, number, name))

    def routes_at_rest(self):
        for _, _, _, word in self.routes():
            self.case.assertEqual("home", word)

    def texts(self):
        for house in self.town.houses:
            for root, _, _ in house.parts():
                entries = house.entries(root)
                self.case.assertEqual(entries, read(written(entries)))

    def logs(self):
        """What was answered about each part, by its marks, till a branch was cut off from it."""
        for root in self.watch.homes:
            rows = self.log(root)
            marks = [mark for cut, mark in self.watch.cuts[root].items() if mark > self.watch.first[root]]
            end = min(marks, default=self.watch.marks[root] + 1)
            entries = self.watch.pages[root, self.watch.first[root]]
            told = [row for row in rows if row[-1] < end][:200]
            self.case.assertIsNone(judged(entries, self.watch.first[root], told))
            if told:
                self.case.assertEqual(self.watch.pages[root, told[-1][-1]], behind(entries, told))
            for at, row in enumerate(told[:50]):
                if row[0] in ("put", "drop"):
                    twice = told[:at + 1] + told[at:]
                    self.case.assertEqual(at + 1, judged(entries, self.watch.first[root], twice[:200]))

    def log(self, root):
        rows = []
        for number, house in enumerate(self.town.houses):
            for (kind, name, worth), (_, answer) in zip(self.watch.asked[number], house.answers()):
                if answer[1] != root or kind in ("copy", "leave"):
                    continue
                changes = kind != "look" and answer[0] == "done"
                word = "lacks" if answer[0] == "lacks" else kind
                told = {"put": (worth,), "look": answer[3:]}.get(word, ())
                rows.append((answer[2], not changes, (word, name, *told, answer[2])))
        return [row for _, _, row in sorted(rows, key=lambda row: row[:2])]

    def hear_again(self):
        """Letters of any earlier time, and what is told behind them: nothing comes of it."""
        ahead = [tells(house) for house in self.town.houses]
        letters = list(dict.fromkeys(self.town.told))
        self.chance.shuffle(letters)
        for to, letter in letters[:300]:
            self.town.deliver([(to, letter)])
        self.case.assertEqual(ahead, [tells(house) for house in self.town.houses])
        for _ in range(3):
            self.town.round()
        self.case.assertEqual(0, self.town.round())
        self.case.assertEqual(ahead, [tells(house) for house in self.town.houses])


class RunsTest(unittest.TestCase):
    def test_many_runs(self):
        for seed in range(RUNS):
            with self.subTest(seed=seed):
                run = Run(self, seed)
                run.go(run.chance.choice([20, 60, 120, 200])).rest().hear_again()

    def test_runs_that_go_on_behind_rest(self):
        for seed in range(20):
            with self.subTest(seed=seed):
                run = Run(self, 1000 + seed)
                run.go(60).rest().hear_again()
                run.go(60).rest().hear_again()

    def test_routes_texts_and_logs(self):
        words = []
        for seed in range(50):
            with self.subTest(seed=seed):
                run = Run(self, 2000 + seed)
                run.instants = [lambda: words.extend([word for _, _, _, word in run.routes()]), run.texts]
                run.go(60).rest()
                run.routes_at_rest()
                run.asks_go_by_routes()
                run.texts()
                run.logs()
        self.assertGreater(words.count("home"), 1000)
        self.assertGreater(words.count("waits"), 1000)

    def test_asks_go_by_routes(self):
        for seed in range(25):
            with self.subTest(seed=seed):
                run = Run(self, 3000 + seed)
                for _ in range(12):
                    run.go(5).asks_go_by_routes()

    def test_runs_in_which_much_happens(self):
        runs = [Run(self, seed).go(200).rest() for seed in range(20)]
        self.assertGreater(sum([len(run.watch.homes) for run in runs]), 60)
        self.assertGreater(sum([len(homes) for run in runs for homes in run.watch.homes.values()]), 300)
        words = [answer[0] for run in runs for house in run.town.houses for _, answer in house.answers()]
        for word in ("is", "done", "lacks", "noroot"):
            self.assertGreater(words.count(word), 20, word)


if __name__ == "__main__":
    unittest.main()

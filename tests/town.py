"""What the tests share: houses with a post between them, and a watch over what they promise.

A letter is never looked into: the tests know only to which house it goes.
"""

import copy

from headbook.errors import BookError
from headbook.houses import House

KINDS = ("look", "put", "drop", "copy", "leave")
NAMES = [
    (), ("a",), ("b",), ("zz",), ("a", "a"), ("a", "b"), ("b", "a"), ("a", "a", "a"),
    ("a", "a", "b"), ("a", "b", "a"), ("a", "a", "a", "b"), ("a", "a", "a", "b", "xyz"),
]
ENDLESS = 20000


def under(name, root):
    return name[:len(root)] == root


def longest(roots, name):
    return max([root for root in roots if under(name, root)], key=len, default=None)


class Town:
    """Houses, and the letters that they ever told."""

    def __init__(self, many):
        self.many = many
        self.houses = [House(number, many) for number in range(many)]
        self.told = []
        self.behind = lambda house: None

    def __getitem__(self, number):
        return self.houses[number]

    def collect(self, number):
        letters = self.houses[number].letters()
        self.told.extend(letters)
        return letters

    def hear(self, to, letter):
        letters = self.houses[to].hear(letter)
        self.told.extend(letters)
        self.behind(to)
        return letters

    def deliver(self, letters):
        """Hear these and all that is told behind them; how many were heard."""
        under_way = list(letters)
        heard = 0
        while under_way:
            under_way.extend(self.hear(*under_way.pop(0)))
            heard += 1
            if heard > ENDLESS:
                raise AssertionError("letters without end")
        return heard

    def round(self):
        return sum(self.deliver(self.collect(number)) for number in range(self.many))

    def rest(self, asks=0):
        """As many rounds as the document gives, and one that must tell nothing."""
        for _ in range(asks + 10):
            self.round()
        if self.round():
            raise AssertionError("letters are told at rest")
        return self


def tables(houses):
    """What the houses know and are home of, as route takes it."""
    return [(tuple(house.knows()), tuple(root for root, _, _ in house.parts())) for house in houses]


def ask_path(town, number, name):
    """By which houses a look goes that this house asks now, if each letter of it is heard at
    once, and whether it is answered. Nothing is done to the town."""
    houses = copy.deepcopy(town.houses)
    ahead = houses[number].letters()
    answered = len(houses[number].answers())
    houses[number].look(name)
    under_way = [row for row in houses[number].letters() if row not in ahead]
    path = [number]
    while under_way:
        (to, letter), = under_way
        path.append(to)
        if len(path) > ENDLESS:
            raise AssertionError("an ask without end")
        under_way = houses[to].hear(letter)
        if len(houses[number].answers()) > answered:
            # The last letter was the answer; and a home sends its own ask to itself.
            path.pop()
            return (path[:-1] if path == [number, number] else path, "home")
    return (path, "waits")


def tells(house):
    """All that a house tells, but for its letters."""
    return (
        house.parts(), [house.entries(root) for root, _, _ in house.parts()], house.copies(),
        house.knows(), house.answers(), [house.old(name) for name in NAMES],
    )


def all_tells(house):
    return tells(house), house.letters()


def refused(case, house, error, method, *args):
    """The call is refused by just this class, and nothing that the house tells changes."""
    ahead = all_tells(house)
    with case.assertRaises(BookError) as caught:
        getattr(house, method)(*args)
    case.assertIs(error, caught.exception.__class__, (method, args))
    case.assertEqual(ahead, all_tells(house), (method, args))


class Watch:
    """What must hold at each instant, from what was asked, cut and moved, and what is told."""

    def __init__(self, case, town):
        self.case = case
        self.town = town
        self.homes = {(): [0]}      # root: its house by each turn
        self.first = {(): 0}        # root: its first mark
        self.marks = {(): 0}        # root: its greatest mark seen
        self.pages = {((), 0): []}  # (root, mark): entries
        self.cuts = {(): {}}        # root: {branch: mark by which it was cut off}
        self.asked = [[] for _ in town.houses]
        self.marks_ahead = [[] for _ in town.houses]
        self.wanted = [{} for _ in town.houses]
        self.had = [{} for _ in town.houses]
        self.known = [{} for _ in town.houses]
        self.answered = [[] for _ in town.houses]
        self.now = [None for _ in town.houses]
        town.behind = self.check
        for number in range(town.many):
            self.check(number)

    # What is done

    def ask(self, number, kind, name, worth=None):
        house = self.town[number]
        args = (name, worth) if kind == "put" else (name,)
        ask = getattr(house, kind)(*args)
        self.case.assertEqual(len(self.asked[number]), ask)
        self.asked[number].append((kind, name, worth))
        self.marks_ahead[number].append(dict(self.marks))
        if kind == "copy":
            self.wanted[number][name] = True
        if kind == "leave":
            self.wanted[number].pop(name, None)
            self.case.assertNotIn(name, [root for root, _ in house.copies()])
        self.check(number)
        return ask

    def cut(self, number, branch):
        house = self.town[number]
        root = longest([root for root, _, _ in house.parts()], branch)
        house.cut(branch)
        mark = self.marks[root] + 1
        self.homes[branch] = [number]
        self.first[branch] = self.marks[branch] = mark
        self.cuts[branch] = {cut: mark for cut in self.cuts[root] if under(cut, branch)}
        self.cuts[root][branch] = mark
        self.case.assertIn((branch, 0, mark), house.parts())
        self.check(number)

    def move(self, number, root, to):
        house = self.town[number]
        house.move(root, to)
        self.homes[root].append(to)
        self.case.assertNotIn(root, [root for root, _, _ in house.parts()])
        self.check(number)

    # What is seen

    def check(self, number):
        house = self.town[number]
        self.check_parts(number, house)
        self.check_knows(number, house)
        self.check_copies(number, house)
        self.check_answers(number, house)
        for name in NAMES:
            self.case.assertEqual(self.old(house, name), house.old(name), name)
        for other in range(self.town.many):
            if other != number and self.now[other] is not None:
                self.case.assertEqual(self.now[other][0], self.town[other].parts())
        self.now[number] = tells(house)
        self.case.assertEqual(self.now[number], tells(house))

    def check_parts(self, number, house):
        case = self.case
        case.assertEqual(sorted(house.parts()), house.parts())
        changed = 0
        for root, turn, mark in house.parts():
            case.assertEqual(len(self.homes[root]) - 1, turn, "a home by a turn gone by")
            case.assertEqual(self.homes[root][turn], number)
            entries = house.entries(root)
            case.assertEqual(sorted(entries), entries)
            case.assertEqual(self.pages.setdefault((root, mark), entries), entries)
            case.assertIn(mark - self.marks[root], (0, 1))
            changed += mark - self.marks[root]
            self.marks[root] = mark
        case.assertLessEqual(changed, 1, "more asks than one were done at once")

    def check_knows(self, number, house):
        case = self.case
        case.assertEqual(sorted(house.knows()), house.knows())
        for root, turn, home in house.knows():
            case.assertEqual(self.homes[root][turn], home)
            case.assertGreaterEqual(turn, self.known[number].get(root, 0))
        known = {root: turn for root, turn, _ in house.knows()}
        case.assertEqual({}, {root: 0 for root in self.known[number] if root not in known})
        heard_of = [row[0] for row in house.parts() + house.copies()]
        for root in heard_of + [answer[1] for _, answer in house.answers()]:
            case.assertIn(root, known)
        self.known[number] = known

    def check_copies(self, number, house):
        case = self.case
        case.assertEqual(sorted(house.copies()), house.copies())
        for root, mark in house.copies():
            case.assertIn(root, self.wanted[number])
            case.assertIn((root, mark), self.pages)
            case.assertGreaterEqual(mark, self.had[number].get(root, 0))
            self.had[number][root] = mark

    def check_answers(self, number, house):
        answers = house.answers()
        ahead = self.answered[number]
        self.case.assertEqual(ahead, answers[:len(ahead)])
        self.case.assertEqual(list(range(len(answers))), [ask for ask, _ in answers])
        self.answered[number] = answers
        if len(answers) < len(self.asked[number]):
            name = self.asked[number][len(answers)][1]
            known = {root: home for root, _, home in house.knows()}
            home = known[longest(known, name)]
            self.case.assertIn(home, [to for to, _ in house.letters()])

    def old(self, house, name):
        pages = dict(house.copies())
        pages.update({root: mark for root, _, mark in house.parts()})
        root = longest(pages, name)
        if root is None or not self.lies(root, pages[root], name):
            return None
        return (root, pages[root], dict(self.pages[root, pages[root]]).get(name))

    def lies(self, root, mark, name):
        cuts = [cut for cut, at in self.cuts[root].items() if at <= mark]
        return under(name, root) and longest(cuts, name) is None

    # What was done in the end

    def check_rest(self):
        case = self.case
        for number in range(self.town.many):
            case.assertEqual(len(self.asked[number]), len(self.town[number].answers()))
            case.assertEqual(self.copies_at_rest(number), self.town[number].copies())
        parts = sorted([row for house in self.town.houses for row in house.parts()])
        case.assertEqual(
            sorted([(root, len(self.homes[root]) - 1, self.marks[root]) for root in self.homes]), parts)
        self.check_deeds()

    def copies_at_rest(self, number):
        copies = {}
        for (kind, name, _), (_, answer) in zip(self.asked[number], self.town[number].answers()):
            if kind == "copy" and answer[0] == "done":
                copies[name] = self.marks[name]
            if kind == "leave":
                copies.pop(name, None)
        return sorted(copies.items())

    def check_deeds(self):
        """Each mark of each part comes of just one put, drop or cut."""
        changes = {}
        for root in self.cuts:
            for branch, mark in self.cuts[root].items():
                if mark > self.first[root]:
                    self.change(changes, root, mark)
                    self.check_cut(root, branch, mark)
        for number in range(self.town.many):
            self.check_asks(number, changes)
        expected = [(root, mark) for root in self.marks
                    for mark in range(self.first[root] + 1, self.marks[root] + 1)]
        self.case.assertEqual(sorted(expected), sorted(changes))

    def change(self, changes, root, mark):
        self.case.assertNotIn((root, mark), changes)
        changes[root, mark] = True

    def check_cut(self, root, branch, mark):
        ahead = self.pages[root, mark - 1]
        self.case.assertEqual([row for row in ahead if not under(row[0], branch)], self.pages[root, mark])
        self.case.assertEqual([row for row in ahead if under(row[0], branch)], self.pages[branch, mark])

    def check_asks(self, number, changes):
        latest = {}
        answers = [answer for _, answer in self.town[number].answers()]
        for ask, (deed, answer) in enumerate(zip(self.asked[number], answers)):
            root, mark = answer[1], answer[2]
            self.case.assertGreaterEqual(mark, self.marks_ahead[number][ask].get(root, 0))
            self.case.assertGreaterEqual(mark, latest.get(root, 0))
            latest[root] = mark
            self.check_answer(deed, answer, changes)

    def check_answer(self, deed, answer, changes):
        kind, name, worth = deed
        word, root, mark = answer[:3]
        numbers = dict(self.pages[root, mark])
        self.case.assertTrue(self.lies(root, mark, name), (deed, answer))
        if kind == "look":
            self.case.assertEqual(("is", root, mark, numbers.get(name)), answer)
            return
        self.case.assertEqual(3, len(answer))
        if kind in ("copy", "leave"):
            self.case.assertEqual("done" if name == root else "noroot", word)
        elif word == "lacks":
            self.case.assertEqual("drop", kind)
            self.case.assertNotIn(name, numbers)
        else:
            self.case.assertEqual("done", word)
            self.change(changes, root, mark)
            ahead = dict(self.pages[root, mark - 1])
            if kind == "put":
                ahead[name] = worth
            else:
                del ahead[name]
            self.case.assertEqual(ahead, numbers)

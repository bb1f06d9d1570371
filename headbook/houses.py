"""Houses, each with the parts of which it is home, its asks, and its copies.

A letter is a tuple, its first item a word:

("ask", asker, ask, deed, by): an ask under way, and by which root's length and turn it was
    sent; a deed is (kind, name, number).
("answer", ask, answer, news): news is all that the sender knows.
("part", sender, packed, news): a part that moves.
("came", root, turn): it came.
("page", sender, ask, page, news): a copy, for an ask of the house that it is sent to.
("have", house, root, ask, mark): the house has it.

Asks, parts and copies are told again until it is heard that they came; the other letters are
told once for each of these that is heard. All that a house asks, of itself too, is done when
its letter is heard: so there is one way for all asks, and one letter does one at the most.
"""

from headbook.errors import BadCut, BadHouse, Full, NotHome
from headbook.names import check_house, check_many, check_name, check_number, longest
from headbook.parts import Page, Part
from headbook.ways import UNSENT, way_on

MOST_ASKS = 100


class House:
    """One of the houses; whoever holds them is the post between them."""

    def __init__(self, number, many):
        check_many(many)
        check_house(number, many)
        self._number = number
        self._many = many
        # What was asked, (kind, name, number) each, and how the first of these were answered.
        self._deeds = []
        self._replies = []
        # By roots: (turn, house) of those heard of; the parts at home; (turn, house, letter) of
        # parts that moved and of which it wasn't heard that they came; and the copies.
        self._known = {(): (0, 0)}
        self._homes = {}
        self._moves = {}
        self._pages = {}
        # By roots of which copies are wanted: the first ask for these since none were.
        self._wanted = {}
        if number == 0:
            self._homes[()] = Part((((), 0, [], []), 0, [], []))

    # Asks

    def look(self, name):
        check_name(name)
        return self._ask("look", name, None)

    def put(self, name, number):
        check_name(name)
        check_number(number)
        return self._ask("put", name, number)

    def drop(self, name):
        check_name(name)
        return self._ask("drop", name, None)

    def copy(self, root):
        check_name(root)
        ask = self._ask("copy", root, None)
        self._wanted.setdefault(root, ask)
        return ask

    def leave(self, root):
        check_name(root)
        ask = self._ask("leave", root, None)
        self._wanted.pop(root, None)
        self._pages.pop(root, None)
        return ask

    def answers(self):
        return list(enumerate(self._replies))

    def _ask(self, kind, name, number):
        if len(self._deeds) == MOST_ASKS:
            raise Full("a house asks a hundred times at most")
        self._deeds.append((kind, name, number))
        return len(self._deeds) - 1

    # Parts

    def cut(self, root):
        check_name(root)
        home = longest(self._homes, root)
        if home is None or not self._homes[home].lies(root):
            raise NotHome("the part in which this root lies isn't at home here")
        if home == root:
            raise BadCut("this is the root of a part already")
        self._homes[root] = self._homes[home].branch(root)
        self._known[root] = (0, self._number)

    def move(self, root, house):
        self._check_home(root)
        check_house(house, self._many)
        if house == self._number:
            raise BadHouse("a part moves to another house")
        part = self._homes.pop(root)
        part.turn += 1
        self._known[root] = (part.turn, house)
        letter = ("part", self._number, part.packed(), self._news())
        self._moves[root] = (part.turn, house, letter)

    def _check_home(self, root):
        check_name(root)
        if root not in self._homes:
            raise NotHome("this part isn't at home here")

    # What the house tells

    def parts(self):
        return sorted([(root, part.turn, part.mark) for root, part in self._homes.items()])

    def entries(self, root):
        self._check_home(root)
        return self._homes[root].entries()

    def copies(self):
        return sorted([(root, page.mark) for root, page in self._pages.items()])

    def knows(self):
        return sorted([(root, turn, house) for root, (turn, house) in self._known.items()])

    def old(self, name):
        check_name(name)
        for size in range(len(name), -1, -1):
            # At home the part is as it is now; a copy of it may lag behind.
            page = self._homes.get(name[:size], self._pages.get(name[:size]))
            if page is not None:
                return page.told(name)
        return None

    # Letters

    def letters(self):
        moves = [(house, letter) for _, house, letter in self._moves.values()]
        return self._ask_letters() + moves + self._page_letters()

    def hear(self, letter):
        word = letter[0]
        if word == "ask":
            return self._hear_ask(letter)
        if word == "answer":
            return self._hear_answer(letter)
        if word == "part":
            return self._hear_part(letter)
        if word == "page":
            return self._hear_page(letter)
        if word == "came":
            self._hear_came(letter)
        else:
            self._hear_have(letter)
        return []

    def _news(self):
        return tuple(self.knows())

    def _learn(self, news):
        for root, turn, house in news:
            if root not in self._known or self._known[root][0] < turn:
                self._known[root] = (turn, house)

    def _ask_letters(self):
        """The first ask that wasn't answered, if there is one, by what is known now."""
        ask = len(self._replies)
        if ask == len(self._deeds):
            return []
        return self._sent_on(self._number, ask, self._deeds[ask], UNSENT)

    def _sent_on(self, asker, ask, deed, by):
        way = way_on(self._known, deed[1], by)
        if way is None:
            # It needn't wait here: its asker tells it again.
            return []
        house, next_by = way
        return [(house, ("ask", asker, ask, deed, next_by))]

    def _page_letters(self):
        told = []
        for part in self._homes.values():
            for house, ask in part.due():
                told.append((house, ("page", self._number, ask, part.page(), self._news())))
        return told

    def _hear_ask(self, letter):
        _, asker, ask, deed, by = letter
        # A home knows of all that was cut off from its part, so if it is home of the longest
        # root that it knows, the name lies there.
        root = longest(self._known, deed[1])
        if root in self._homes:
            return self._answer(asker, ask, self._homes[root].answered(asker, ask, deed))
        return self._sent_on(asker, ask, deed, by)

    def _answer(self, asker, ask, answer):
        if answer is None:
            return []
        return [(asker, ("answer", ask, answer, self._news()))]

    def _hear_answer(self, letter):
        _, ask, answer, news = letter
        if ask != len(self._replies):
            return []
        self._replies.append(answer)
        self._learn(news)
        return self._ask_letters()

    def _hear_part(self, letter):
        _, sender, packed, news = letter
        part = Part(packed)
        self._learn(news)
        # Where this letter was heard ahead, the house is home still, or moved the part on and
        # so knows of a greater turn.
        if part.root not in self._homes and self._known[part.root][0] == part.turn:
            self._homes[part.root] = part
        return [(sender, ("came", part.root, part.turn))]

    def _hear_came(self, letter):
        _, root, turn = letter
        if root in self._moves and self._moves[root][0] == turn:
            del self._moves[root]

    def _hear_page(self, letter):
        _, sender, ask, packed, news = letter
        page = Page(packed)
        # A copy for an ask ahead of the last leave is too late.
        if page.root not in self._wanted or ask < self._wanted[page.root]:
            return []
        held = self._pages.get(page.root)
        if held is None or held.mark < page.mark:
            self._pages[page.root] = page
            self._learn(news)
        return [(sender, ("have", self._number, page.root, ask, page.mark))]

    def _hear_have(self, letter):
        _, house, root, ask, mark = letter
        if root in self._homes:
            self._homes[root].had(house, ask, mark)

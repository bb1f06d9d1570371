"""Parts of the book, and the pages that copies of them are."""

from headbook.names import is_under, longest

# Older than any ask, and less than any mark.
NEVER = -1


class Page:
    """The numbers of a part by one mark, and what was cut off from it by then."""

    def __init__(self, page):
        root, mark, numbers, cuts = page
        self.root = root
        self.mark = mark
        self.numbers = {name: number for name, number in numbers}
        self.cuts = {cut: True for cut in cuts}

    def lies(self, name):
        """Whether the name is one of this part's own."""
        return is_under(name, self.root) and longest(self.cuts, name) is None

    def told(self, name):
        """(root, mark, number) of a name, or None for one that doesn't lie here."""
        if not self.lies(name):
            return None
        return (self.root, self.mark, self.numbers.get(name))

    def entries(self):
        return sorted(self.numbers.items())

    def page(self):
        """What a page is made of, in tuples, so that no one can change it under way."""
        return (self.root, self.mark, tuple(self.entries()), tuple(sorted(self.cuts)))


class Part(Page):
    """A part at its home.

    done has (ask, answer) of each house's last ask that was done here. As it goes with the
    part where it moves, and with each branch cut off, an ask that comes again is found
    there wherever its name lies by then.
    wants has (ask, mark) of each house that wants copies: its ask, and the last mark that
    it is known to have.
    """

    def __init__(self, packed):
        page, turn, done, wants = packed
        Page.__init__(self, page)
        self.turn = turn
        self.done = {asker: last for asker, last in done}
        self.wants = {house: want for house, want in wants}

    def packed(self):
        """What a part is made of, in tuples."""
        return (self.page(), self.turn, tuple(self.done.items()), tuple(self.wants.items()))

    def branch(self, root):
        """Cut off all under the root: the part that it is from now on."""
        self.mark += 1
        numbers = [(name, number) for name, number in self.numbers.items() if is_under(name, root)]
        cuts = [cut for cut in self.cuts if is_under(cut, root)]
        self.numbers = {name: self.numbers[name] for name in self.numbers if not is_under(name, root)}
        self.cuts[root] = True
        return Part(((root, self.mark, numbers, cuts), 0, list(self.done.items()), []))

    def answered(self, asker, ask, deed):
        """The answer of an ask, which is done if it wasn't yet; None for one long answered."""
        last, answer = self.done.get(asker, (NEVER, None))
        if ask < last:
            return None
        if ask > last:
            answer = self._do(asker, ask, deed)
            self.done[asker] = (ask, answer)
        return answer

    def _do(self, asker, ask, deed):
        kind, name, number = deed
        if kind == "look":
            return ("is", self.root, self.mark, self.numbers.get(name))
        if kind == "put":
            return self._put(name, number)
        if kind == "drop":
            return self._drop(name)
        if name != self.root:
            return ("noroot", self.root, self.mark)
        if kind == "copy":
            self.wants[asker] = (ask, NEVER)
        else:
            self.wants.pop(asker, None)
        return ("done", self.root, self.mark)

    def _put(self, name, number):
        self.numbers[name] = number
        self.mark += 1
        return ("done", self.root, self.mark)

    def _drop(self, name):
        if name not in self.numbers:
            return ("lacks", self.root, self.mark)
        del self.numbers[name]
        self.mark += 1
        return ("done", self.root, self.mark)

    def due(self):
        """(house, ask) of each house that wants a newer copy than it is known to have."""
        return [(house, ask) for house, (ask, mark) in self.wants.items() if mark < self.mark]

    def had(self, house, ask, mark):
        """Note that a house has a copy by this mark, for this ask of its own."""
        wanted, last = self.wants.get(house, (NEVER, NEVER))
        if wanted == ask and last < mark:
            self.wants[house] = (ask, mark)

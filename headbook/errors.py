"""The refusals of Headbook, one class for each kind."""


class BookError(ValueError):
    """Any refusal."""


class BadHouse(BookError):
    """There is no such house, or it is not one that is meant."""


class BadName(BookError):
    """A name that can't be."""


class BadNumber(BookError):
    """A number that no name can have."""


class NotHome(BookError):
    """The house isn't home of the part."""


class BadCut(BookError):
    """A branch that is a part already."""


class Full(BookError):
    """A house has asked all that it may."""


class BadTables(BookError):
    """Tables that can't be; `number` is that of the first that is none, or how many there are."""

    def __init__(self, number):
        BookError.__init__(self, f"tables that can't be: {number}")
        self.number = number


class BadLog(BookError):
    """A log that can't be; `number` is that of its first row that is none."""

    def __init__(self, number):
        BookError.__init__(self, f"row {number} is none of a log")
        self.number = number


class BadText(BookError):
    """A text that can't be read; `row` is its first row that writes no entry."""

    def __init__(self, row):
        BookError.__init__(self, f"row {row} writes no entry")
        self.row = row

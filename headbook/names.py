"""Names and numbers: what can be, and which name is under which root."""

from headbook.errors import BadHouse, BadName, BadNumber

LETTERS = "abcdefghijklmnopqrstuvwxyz"
MOST_LABELS = 5
MOST_LETTERS = 3
MOST_NUMBER = 999
LEAST_HOUSES = 2
MOST_HOUSES = 6


def is_whole(value):
    """Python counts True and False as integers; the book doesn't."""
    return isinstance(value, int) and not isinstance(value, bool)


def is_between(value, low, high):
    return is_whole(value) and low <= value <= high


def is_label(value):
    # The length comes first, so that a text far too long isn't walked through.
    if not isinstance(value, str) or not 1 <= len(value) <= MOST_LETTERS:
        return False
    return all([letter in LETTERS for letter in value])


def is_name(value):
    if not isinstance(value, tuple) or len(value) > MOST_LABELS:
        return False
    return all([is_label(label) for label in value])


def check_name(value):
    if not is_name(value):
        raise BadName("a name is a tuple of at most five labels of one to three small letters")


def is_number(value):
    return is_between(value, 0, MOST_NUMBER)


def check_number(value):
    if not is_number(value):
        raise BadNumber("a number is whole, 0 to 999")


def check_many(value):
    if not is_between(value, LEAST_HOUSES, MOST_HOUSES):
        raise BadHouse("there are 2 to 6 houses")


def check_house(value, many):
    if not is_between(value, 0, many - 1):
        raise BadHouse("there is no such house")


def is_under(name, root):
    return name[:len(root)] == root


def longest(roots, name):
    """The longest of the roots (keys of a dict) under which the name is; None, if there is none."""
    for size in range(len(name), -1, -1):
        if name[:size] in roots:
            return name[:size]
    return None

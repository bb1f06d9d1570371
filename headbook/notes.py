"""Texts of entries: a row for each, its name and its number."""

from headbook.errors import BadText
from headbook.names import check_name, check_number, is_name, is_number

FIGURES = "0123456789"
MOST_FIGURES = 3


def written(entries):
    rows = []
    for name, number in entries:
        check_name(name)
        check_number(number)
        rows.append(f"{written_name(name)} {number}")
    return "\n".join(rows)


def written_name(name):
    return ".".join(name) if name else "."


def read(text):
    if text == "":
        return []
    return [read_row(at, row) for at, row in enumerate(text.split("\n"))]


def read_row(at, row):
    words = row.split(" ")
    if len(words) != 2:
        raise BadText(at)
    name = read_name(words[0])
    number = read_number(words[1])
    if not is_name(name) or not is_number(number):
        raise BadText(at)
    return (name, number)


def read_name(word):
    """What the word would be as a name: whether it is one must be asked."""
    return () if word == "." else tuple(word.split("."))


def read_number(word):
    """The number, or None if the word is none."""
    # The length comes first, so that a word far too long isn't walked through.
    if not 1 <= len(word) <= MOST_FIGURES or not all([sign in FIGURES for sign in word]):
        return None
    return int(word) if word == str(int(word)) else None

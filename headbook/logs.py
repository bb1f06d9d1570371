"""Logs of a part: which of them can be, and what the part has behind them."""

from headbook.errors import BadLog
from headbook.names import is_between, is_name, is_number

MOST_ROWS = 200
MOST_MARK = 9999
# By how much a mark is greater behind each kind of row.
STEPS = {"put": 1, "drop": 1, "lacks": 0, "look": 0}


def judged(entries, mark, rows):
    check_log(rows)
    numbers = {name: number for name, number in entries}
    mark_ahead = mark
    for at, row in enumerate(rows):
        if not can_be(numbers, mark_ahead, row):
            return at
        change(numbers, row)
        mark_ahead = row[-1]
    return None


def behind(entries, rows):
    check_log(rows)
    numbers = {name: number for name, number in entries}
    for row in rows:
        change(numbers, row)
    return sorted(numbers.items())


def check_log(rows):
    for at, row in enumerate(rows):
        if at == MOST_ROWS or not is_row(row):
            raise BadLog(at)


def is_row(row):
    if not isinstance(row, tuple):
        return False
    match row:
        case ("put", name, number, mark):
            return is_name(name) and is_number(number) and is_mark(mark)
        case ("look", name, number, mark):
            return is_name(name) and (number is None or is_number(number)) and is_mark(mark)
        case ("drop" | "lacks", name, mark):
            return is_name(name) and is_mark(mark)
    return False


def is_mark(value):
    return is_between(value, 0, MOST_MARK)


def can_be(numbers, mark, row):
    """Whether a row can be where names have these numbers, and the part this mark."""
    word, name = row[0], row[1]
    if row[-1] != mark + STEPS[word]:
        return False
    if word == "drop":
        return name in numbers
    if word == "lacks":
        return name not in numbers
    return word == "put" or row[2] == numbers.get(name)


def change(numbers, row):
    """Do to the numbers what the row tells, also where it can't be."""
    match row:
        case ("put", name, number, _):
            numbers[name] = number
        case ("drop", name, _):
            numbers.pop(name, None)

"""Routes: by which houses an ask goes, by tables of what each house knows and is home of."""

from headbook.errors import BadTables
from headbook.names import LEAST_HOUSES, MOST_HOUSES, check_house, check_name, is_between, is_name, longest
from headbook.ways import UNSENT, way_on

MOST_TURN = 99


def route(tables, house, name):
    check_tables(tables)
    check_house(house, len(tables))
    check_name(name)
    houses = [house]
    by = UNSENT
    while True:
        knows, homes = tables[houses[-1]]
        known = {root: (turn, to) for root, turn, to in knows}
        if longest(known, name) in homes:
            return (houses, "home")
        way = way_on(known, name, by)
        if way is None:
            return (houses, "waits")
        following, by = way
        houses.append(following)


def check_tables(tables):
    many = len(tables)
    if many < LEAST_HOUSES:
        raise BadTables(many)
    if many > MOST_HOUSES:
        raise BadTables(MOST_HOUSES)
    for number, table in enumerate(tables):
        if not is_table(table, many):
            raise BadTables(number)


def is_table(table, many):
    if not isinstance(table, tuple) or len(table) != 2:
        return False
    knows, homes = table
    if not isinstance(knows, tuple) or not isinstance(homes, tuple):
        return False
    if not all([is_known(row, many) for row in knows]):
        return False
    roots = [row[0] for row in knows]
    # What is among the roots is a name: so homes are compared only where they can be.
    return () in roots and rises(roots) and all([root in roots for root in homes]) and rises(homes)


def is_known(row, many):
    """Whether it is (root, turn, house), where there are so many houses."""
    if not isinstance(row, tuple) or len(row) != 3:
        return False
    root, turn, house = row
    return is_name(root) and is_between(turn, 0, MOST_TURN) and is_between(house, 0, many - 1)


def rises(names):
    return all([name < following for name, following in zip(names, names[1:])])

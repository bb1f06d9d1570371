"""The ways of asks: to which house an ask is sent, and sent on."""

from headbook.names import longest

# Less than the length and the turn of any root: what an ask wasn't sent by yet.
UNSENT = (-1, -1)


def way_on(known, name, by):
    """(house, by): to which house an ask for the name is sent on, and by which root's length
    and turn. None if it isn't.

    known has (turn, house) by roots, () among them. Each step is by more than the one ahead,
    and there are only so many lengths and turns: so no ask goes round in a ring.
    """
    root = longest(known, name)
    turn, house = known[root]
    step = (len(root), turn)
    return (house, step) if step > by else None

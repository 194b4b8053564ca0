"""Rows of names, the earliest order that keeps them, and rings of wishes."""

from parentlines.errors import Ring
from parentlines.words import is_name, is_whole


def merged(rows):
    """The earliest of the orders that keep the rows; refused with Ring where none does."""
    order = []
    rest = list(rows)
    while any(rest):
        name = least_free(rest)
        if name is None:
            raise Ring(None, ring_within(rest))
        order.append(name)
        rest = [tuple([other for other in row if other != name]) for row in rest]
    return tuple(order)


def least_free(rest):
    """The name of the least rank that no name stands ahead of, or None."""
    # A free name heads each row that has it, so the first row headed by a free name is the one of its rank.
    for row in rest:
        if row and wish_against(rest, row[0]) is None:
            return row[0]
    return None


def wish_against(rest, name):
    """A wish that another name stand ahead of this one, or None where no row has such a wish."""
    for at, row in enumerate(rest):
        if name in row and row[0] != name:
            return (at, row[0], name)
    return None


def ring_within(rest):
    """A ring of rows of which no name is free."""
    # Each name has one ahead of it, and names are few: walked back from name to name, one comes again.
    name = [row[0] for row in rest if row][0]
    passed = []
    wishes = []
    while name not in passed:
        passed.append(name)
        wish = wish_against(rest, name)
        wishes.append(wish)
        name = wish[1]
    # What was passed ahead of the name that came again only leads to the ring; the walk went against the wishes.
    around = wishes[passed.index(name):]
    return tuple(around[::-1])


def keeps(rows, thing):
    """Whether a thing is an order of the rows that keeps them."""
    if not is_row(thing) or sorted(thing) != names_within(rows):
        return False
    return all([tuple([name for name in thing if name in row]) == row for row in rows])


def is_row(thing):
    """Whether a thing is a tuple of unlike names."""
    if not isinstance(thing, tuple) or not all([is_name(name) for name in thing]):
        return False
    return len(set(thing)) == len(thing)


def names_within(rows):
    """The names that the rows have, sorted, each once."""
    return sorted({name for row in rows for name in row})


def is_ring(rows, thing):
    """Whether a thing is a ring of the rows."""
    if not isinstance(thing, tuple) or len(thing) < 2:
        return False
    if not all([is_wish(rows, wish) for wish in thing]):
        return False
    fronts = [wish[1] for wish in thing]
    backs = [wish[2] for wish in thing]
    return backs == fronts[1:] + fronts[:1] and len(set(fronts)) == len(fronts)


def is_wish(rows, thing):
    """Whether a thing is a wish that one of the rows has."""
    if not isinstance(thing, tuple) or len(thing) != 3:
        return False
    place, front, back = thing
    if not is_whole(place) or not 0 <= place < len(rows) or not is_name(front) or not is_name(back):
        return False
    row = rows[place]
    return front in row and back in row[row.index(front) + 1:]

"""Goers: they go along the line of a thing's kind, from kind to kind that has a name."""

from parentlines.words import check_name
from parentlines.worlds import check_thing, kind_of


class Goer:
    """Stands nowhere, or at a kind, and goes on from there."""

    def __init__(self, house, thing, name):
        check_thing(house.world(), thing)
        check_name(name)
        self.home = house
        self.thing = thing
        self.name = name
        self.stands = ""

    def go(self):
        """The next kind that has the name, at which it stands then, or None; refused with NoThing, NotAbove."""
        hit = self.home.found(kind_of(self.home.world(), self.thing), self.name, self.stands)
        if hit is None:
            return None
        self.stands = hit[0]
        return self.stands

    def place(self):
        """The kind where it stands, or no text."""
        return self.stands

    def back(self):
        """Stands nowhere again."""
        self.stands = ""

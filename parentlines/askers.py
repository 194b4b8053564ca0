"""Askers: they ask a house one name again and again, and keep for which kinds they looked."""

from parentlines.errors import NoNumber
from parentlines.words import check_name, is_whole
from parentlines.worlds import kind_of

MOST_PAIRS = 4


class Asker:
    """Asks the things of a house one name, and keeps kinds with their stamps, the newest last."""

    def __init__(self, house, name, many=1):
        check_name(name)
        if not is_whole(many) or not 1 <= many <= MOST_PAIRS:
            raise NoNumber("no whole number from 1 to 4")
        self.home = house
        self.name = name
        self.many = many
        self.missed = 0
        # What was found stands in the house: nothing drops it there that does not change the kind's stamp, too.
        self.stamps = {}

    def tells(self, thing):
        """What the thing tells the house; refused with NoThing; Missing, Endless, as they come."""
        self.look_at(kind_of(self.home.world(), thing))
        return self.home.ask(thing, self.name)

    def misses(self):
        """How often no pair told what is found."""
        return self.missed

    def pairs(self):
        """The kinds with their stamps, sorted."""
        return sorted(self.stamps.items())

    def look_at(self, kind):
        """Has what is found at the kind: by its pair, or else by the house, and a new pair is kept."""
        stamp = self.home.stamp(kind)
        if self.stamps.get(kind) == stamp:
            return
        self.missed += 1
        self.home.found(kind, self.name)
        if kind in self.stamps:
            self.stamps.pop(kind)
        elif len(self.stamps) == self.many:
            self.stamps.pop(list(self.stamps)[0])
        self.stamps[kind] = stamp

"""What a thing tells, asked a name."""

from parentlines.entries import goes_first, steps_of
from parentlines.errors import Endless, Missing
from parentlines.families import line_of
from parentlines.finds import check_behind, entries_by_place, found_along
from parentlines.words import check_name
from parentlines.worlds import kind_and_own


def number_asked(world, thing, name, behind=""):
    """What the thing tells, asked the name, behind a kind of its kind's line if one is told.

    Refused with NoThing, NoName, NotAbove; Missing, Endless, as they come.
    """
    family, book, things = world
    kind, own = kind_and_own(world, thing)
    check_name(name)
    line = line_of(family, kind)
    check_behind(line, behind)
    return Whole(line, entries_by_place(book), dict(own)).tell((name, behind))


class Whole:
    """All that comes of one asking of a thing; an asking is a pair of a name and the kind behind which, or no text."""

    def __init__(self, forebears, entries, own):
        self.forebears = forebears
        self.entries = entries
        self.own = own
        self.known = {}

    def tell(self, first):
        """The number of an asking; refused with Missing, Endless."""
        # Askings within one another stand in a list, not in calls within calls, so that they may be many.
        standing = [first]
        while standing:
            needed = self.reckon(standing[-1])
            if needed is None:
                standing.pop()
            elif needed in standing:
                raise Endless(round_from(standing, needed))
            else:
                standing.append(needed)
        return self.known[first]

    def reckon(self, asking):
        """Makes the number of an asking known, or tells the first asking it needs that is not known yet."""
        name, behind = asking
        hit = found_along(self.forebears, self.entries, name, behind)
        if behind == "" and name in self.own and (hit is None or not goes_first(hit[1])):
            self.known[asking] = self.own[name]
            return None
        if hit is None:
            raise Missing(name)
        total = 0
        for step in steps_of(hit[1]):
            needed = self.come_to(name, hit[0], step)
            if needed is not None and needed not in self.known:
                return needed
            total = self.stepped(total, step, needed)
        self.known[asking] = total
        return None

    def come_to(self, name, where, step):
        """The asking that a step comes to, of an entry of the name that stands at a kind; or None."""
        if step[0] == "ask":
            return (step[1], "")
        if step[0] == "onward" and found_along(self.forebears, self.entries, name, where) is not None:
            return (name, where)
        return None

    def stepped(self, total, step, needed):
        """What a step makes of the total, the asking that it comes to, if there is one, being known."""
        if step[0] == "add":
            return total + step[1]
        if step[0] == "times":
            return total * step[1]
        return total if needed is None else total + self.known[needed]


def round_from(standing, again):
    """The round of names that shows that an asking is come to again while it stands."""
    # Onward steps only go on in the line, so a round has askings behind none, and their names are unlike.
    return tuple([name for name, behind in standing[standing.index(again):] if behind == ""])

"""What a thing tells, asked a name."""

from parentlines.entries import goes_first, steps_of
from parentlines.errors import Endless, Missing
from parentlines.finds import check_behind, finds_in
from parentlines.words import check_name
from parentlines.worlds import kind_and_own


def number_asked(world, thing, name, behind=""):
    """What the thing tells, asked the name, behind a kind of its kind's line if one is told.

    Refused with NoThing, NoName, NotAbove; Missing, Endless, as they come.
    """
    return whole_asked(world, thing, name, behind).known[(name, behind)][1]


def whole_asked(world, thing, name, behind):
    """All that comes of an asking; refused as number_asked."""
    whole = whole_of(world, thing)
    check_name(name)
    check_behind(whole.forebears(), behind)
    whole.tell((name, behind))
    return whole


def whole_of(world, thing):
    """A whole in which nothing is asked of the thing yet; refused with NoThing."""
    kind, own = kind_and_own(world, thing)
    return Whole(finds_in(world[0], world[1]), kind, dict(own), {})


class Whole:
    """All that comes of one asking of a thing; an asking is a pair of a name and the kind behind which, or no text.

    Of an asking is known: where its entry stands (no text for an own number), the number, the names it rests on.
    """

    def __init__(self, finds, kind, own, kept):
        self.finds = finds
        self.kind = kind
        self.own = own
        self.kept = kept
        self.known = dict(kept)
        self.begun = 0

    def forebears(self):
        """The line of the thing's kind."""
        return self.finds.lines[self.kind]

    def tell(self, first):
        """What is known of an asking behind it; refused with Missing, Endless."""
        # Askings within one another stand in a list, not in calls within calls, so that they may be many.
        standing = []
        self.enter(standing, first)
        while standing:
            needed = self.go_on(standing[-1])
            if needed is None:
                self.settle(standing.pop())
            else:
                self.enter(standing, needed)
        return self.known[first]

    def tell_at_once(self, asking):
        """What comes of an asking by what is known alone, or None where it comes to more; refused with Missing."""
        standing = []
        self.enter(standing, asking)
        if standing and self.go_on(standing[0]) is None:
            self.settle(standing[0])
        return self.known.get(asking)

    def enter(self, standing, asking):
        """Makes an asking known, or lets its entry stand, to be reckoned; refused with Missing, Endless."""
        if asking in self.known:
            return
        if asking in [reckoning.asking for reckoning in standing]:
            raise Endless(round_from(standing, asking))
        name, behind = asking
        hit = self.finds.look(self.kind, name, behind)
        if behind == "" and name in self.own and (hit is None or not goes_first(hit[1])):
            self.known[asking] = ("", self.own[name], (name,))
        elif hit is None:
            raise Missing(name)
        elif hit[1][0] == "plain":
            self.known[asking] = (hit[0], hit[1][1], (name,))
        else:
            self.begun += 1
            standing.append(Reckoning(asking, hit[0], steps_of(hit[1])))

    def go_on(self, reckoning):
        """Goes the steps up to one whose asking is not known yet, and tells that asking; None where none is left."""
        while reckoning.left:
            step = reckoning.left[0]
            needed = self.come_to(reckoning, step)
            if needed is None:
                reckoning.step_by(step)
            elif needed in self.known:
                reckoning.take_in(self.known[needed])
            else:
                return needed
            reckoning.left.pop(0)
        return None

    def come_to(self, reckoning, step):
        """The asking that a step comes to, or None."""
        if step[0] == "ask":
            return (step[1], "")
        if step[0] != "onward":
            return None
        name, where = reckoning.asking[0], reckoning.where
        # What is known is not looked for again: a house that keeps a number looks for nothing.
        if (name, where) in self.known or self.finds.look(self.kind, name, where) is not None:
            return (name, where)
        return None

    def settle(self, reckoning):
        """Makes known, and keeps, what was reckoned to its end."""
        told = (reckoning.where, reckoning.total, tuple(sorted(set(reckoning.rested))))
        self.known[reckoning.asking] = told
        self.kept[reckoning.asking] = told


class Reckoning:
    """An entry that is reckoned: its asking, where it stands, the steps that are left, what came of the others."""

    def __init__(self, asking, where, steps):
        self.asking = asking
        self.where = where
        self.left = list(steps)
        self.total = 0
        self.rested = [asking[0]]

    def step_by(self, step):
        """Goes a step that comes to no asking."""
        if step[0] == "add":
            self.total += step[1]
        if step[0] == "times":
            self.total *= step[1]

    def take_in(self, told):
        """Adds what is known of an asking that a step comes to."""
        self.total += told[1]
        self.rested.extend(told[2])


def round_from(standing, again):
    """The round of names that shows that an asking is come to again while its entry stands."""
    # Onward steps only go on in the line, so a round has askings behind none, and their names are unlike.
    askings = [reckoning.asking for reckoning in standing]
    return tuple([name for name, behind in askings[askings.index(again):] if behind == ""])

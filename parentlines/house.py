"""The house: a world, its deeds, and what is kept of what was found and reckoned."""

from parentlines.asking import Whole
from parentlines.books import name_given, name_taken
from parentlines.changes import kind_changed, kind_let_go, kind_made
from parentlines.errors import InUse
from parentlines.families import check_kind, lines_of
from parentlines.finds import Finds, check_behind, entries_by_place
from parentlines.putting import check_dropped, check_put, end_of_way, with_own, without_own
from parentlines.words import check_name
from parentlines.worlds import check_thing, kind_and_own, kind_of, thing_begun, thing_ended, thing_turned


def house_of(world):
    """A house with this world, with nothing kept and nothing counted."""
    home = House()
    home.stand(world)
    return home


class House:
    """A world that deeds make another one, and all that is kept: finds for kinds, numbers for things."""

    def __init__(self):
        self.held = ((), (), ())
        self.finds = Finds({}, {})
        self.numbers = {}
        self.begun = 0
        self.deeds = 0
        self.marks = {}

    def make(self, kind, parents):
        """Makes a kind; refused with NoName, Taken, NoParents, Ring."""
        family, book, things = self.held
        self.stand((kind_made(family, kind, parents), book, things))
        self.mark(kind)

    def change(self, kind, parents):
        """Gives a kind other parents; refused with NoKind, NoParents, Round, Ring."""
        family, book, things = self.held
        self.stand((kind_changed(family, kind, parents), book, things))
        self.mark(kind)
        self.forget_all(kind)

    def let_go(self, kind):
        """Lets a kind go, with its names; refused with NoKind, InUse."""
        family, book, things = self.held
        rest = kind_let_go(family, kind)
        if kind in [other for thing, other, own in things]:
            raise InUse(f"a thing is of the kind: {kind}")
        self.stand((rest, tuple([triple for triple in book if triple[0] != kind]), things))
        self.finds.drop_kinds([kind])

    def give(self, kind, name, entry):
        """Gives a kind a name with an entry; refused with NoKind, NoName, NoEntry."""
        family, book, things = self.held
        self.stand((family, name_given(family, book, kind, name, entry), things))
        self.mark(kind)
        self.forget_name(kind, name)

    def take(self, kind, name):
        """Takes a name from a kind; refused with NoKind, NoName."""
        family, book, things = self.held
        self.stand((family, name_taken(family, book, kind, name), things))
        self.mark(kind)
        self.forget_name(kind, name)

    def begin(self, thing, kind):
        """Begins a thing; refused with NoName, Taken, NoKind."""
        self.held = thing_begun(self.held, thing, kind)

    def end(self, thing):
        """Ends a thing; refused with NoThing."""
        self.held = thing_ended(self.held, thing)
        self.numbers.pop(thing, None)

    def turn(self, thing, kind):
        """Gives a thing another kind; refused with NoThing, NoKind."""
        self.held = thing_turned(self.held, thing, kind)
        self.numbers.pop(thing, None)

    def put(self, thing, name, number):
        """Puts a number under a name; refused with NoThing, NoName, NoNumber, Shut, Endless."""
        check_put(self.held, thing, name, number)
        last, less = end_of_way(self.finds, kind_of(self.held, thing), name)
        self.held = with_own(self.held, thing, last, number - less)
        self.forget_resting(thing, last)

    def drop(self, thing, name):
        """Drops the own number where the name's way ends; refused with NoThing, NoName, Shut, Endless, Missing."""
        check_dropped(self.held, thing, name)
        last, less = end_of_way(self.finds, kind_of(self.held, thing), name)
        self.held = without_own(self.held, thing, last)
        self.forget_resting(thing, last)

    def world(self):
        """The world as it is now."""
        return self.held

    def line(self, kind):
        """The kind's line; refused with NoKind."""
        check_kind(self.held[0], kind)
        return self.finds.lines[kind]

    def found(self, kind, name, behind=""):
        """What is found of the name at the kind, a pair or None; refused with NoKind, NoName, NotAbove."""
        line = self.line(kind)
        check_name(name)
        check_behind(line, behind)
        return self.finds.look(kind, name, behind)

    def ask(self, thing, name, behind=""):
        """What the thing tells; refused with NoThing, NoName, NotAbove; Missing, Endless, as they come."""
        self.check_asking(thing, name, behind)
        kind, own = kind_and_own(self.held, thing)
        whole = Whole(self.finds, kind, dict(own), self.numbers.setdefault(thing, {}))
        try:
            return whole.tell((name, behind))[1]
        finally:
            # What began to be reckoned counts in a refused asking, too.
            self.begun += whole.begun

    def walked(self):
        """How many kinds were come to on walks along lines."""
        return self.finds.met

    def reckoned(self):
        """How many entries began to be reckoned."""
        return self.begun

    def kept_finds(self, kind):
        """What is kept for a kind: names, the kinds behind which, where they are found; refused with NoKind."""
        check_kind(self.held[0], kind)
        hits = self.finds.hits
        places = [place for place in hits if place[0] == kind]
        return sorted([place[1:] + ("" if hits[place] is None else hits[place][0],) for place in places])

    def kept_numbers(self, thing):
        """What is kept for a thing: names, the kinds behind which, numbers; refused with NoThing."""
        check_thing(self.held, thing)
        kept = self.numbers.get(thing, {})
        return sorted([asking + (kept[asking][1],) for asking in kept])

    def rests(self, thing, name, behind=""):
        """The names that a kept number rests on, or None where none is kept; refused with NoThing, NoName, NotAbove."""
        self.check_asking(thing, name, behind)
        told = self.numbers.get(thing, {}).get((name, behind))
        return None if told is None else list(told[2])

    def stamp(self, kind):
        """The number of the last counted deed at a kind of the line, or 0; refused with NoKind."""
        return max([self.marks.get(other, 0) for other in self.line(kind)])

    def stand(self, world):
        """Has this world from now on, with its lines and entries."""
        self.held = world
        self.finds.stand(lines_of(world[0]), entries_by_place(world[1]))

    def mark(self, kind):
        """Counts a deed, done at a kind."""
        self.deeds += 1
        self.marks[kind] = self.deeds

    def check_asking(self, thing, name, behind):
        """Refuses with NoThing, NoName, NotAbove what can't be asked."""
        kind = kind_of(self.held, thing)
        check_name(name)
        check_behind(self.finds.lines[kind], behind)

    def kinds_below(self, kind):
        """The kinds whose line has the kind."""
        lines = self.finds.lines
        return [other for other in lines if kind in lines[other]]

    def things_below(self, kind):
        """The things whose kind's line has the kind."""
        kinds = self.kinds_below(kind)
        return [thing for thing, other, own in self.held[2] if other in kinds]

    def forget_all(self, kind):
        """Drops all that is kept for kinds and things whose line has the kind."""
        self.finds.drop_kinds(self.kinds_below(kind))
        for thing in self.things_below(kind):
            self.numbers.pop(thing, None)

    def forget_name(self, kind, name):
        """Drops what is kept of the name, and rests on it, for kinds and things whose line has the kind."""
        self.finds.drop_name(self.kinds_below(kind), name)
        for thing in self.things_below(kind):
            self.forget_resting(thing, name)

    def forget_resting(self, thing, name):
        """Drops the numbers of a thing that rest on the name."""
        kept = self.numbers.get(thing, {})
        self.numbers[thing] = {asking: told for asking, told in kept.items() if name not in told[2]}

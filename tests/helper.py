"""Things of all kinds, for what takes anything; and what the document's words tell, tried one by one."""

import itertools
import unittest

from parentlines.asking import number_asked
from parentlines.books import name_given, name_taken
from parentlines.changes import kind_changed, kind_let_go, kind_made
from parentlines.errors import Endless, InUse, LineError, Missing, NotAbove, NoThing
from parentlines.families import line_of
from parentlines.finds import found_at
from parentlines.putting import number_dropped, number_put
from parentlines.worlds import thing_begun, thing_ended, thing_turned


class Refusing(unittest.TestCase):
    def refused(self, error, deed, *handed):
        """The refusal of a call, which must be of just this class."""
        with self.assertRaises(LineError) as caught:
            deed(*handed)
        self.assertIs(type(caught.exception), error, handed)
        return caught.exception


class Prickly:
    """Fails when it is compared, measured, walked or asked for its hash."""

    def refuse(self, *others):
        raise RuntimeError("touched")

    __eq__ = __ne__ = __lt__ = __le__ = __gt__ = __ge__ = refuse
    __hash__ = __len__ = __iter__ = __bool__ = __getitem__ = __contains__ = refuse


def endless_list():
    """A list that holds itself."""
    box = []
    box.append(box)
    return box


def anything():
    """Things that are no names, no rows, no rings, no families, no entries, no books and no worlds."""
    plain = [
        None, True, False, 0, 1, -1, 10 ** 30, "", " ", "A", "a b", "ab1", "abcdefghi", "\u00e9", "a\n",
        b"", b"a", [], ["a"], ["a", "b"], {}, {"a": "b"}, {"a"}, set(), frozenset("a"), range(2),
        len, str, object(), Prickly(), endless_list(), iter("ab"), ValueError("a"),
    ]
    held = [(thing,) for thing in plain]
    pairs = [("a", thing) for thing in plain] + [(thing, thing) for thing in plain]
    triples = [(thing, "a", "b") for thing in plain] + [(0, thing, "b") for thing in plain]
    triples += [(0, "a", thing) for thing in plain]
    return plain + held + pairs + triples


def places(thing, other):
    """The tuple with another thing in each of its places, and in those of its tuples, one at a time."""
    told = [thing[:at] + (other,) + thing[at + 1:] for at in range(len(thing))]
    for at, part in enumerate(thing):
        if isinstance(part, tuple):
            told += [thing[:at] + (within,) + thing[at + 1:] for within in places(part, other)]
    return told


def with_lists(thing):
    """The tuple with a list in the place of it, and of each of its tuples, one at a time."""
    told = [list(thing)]
    for at, part in enumerate(thing):
        if isinstance(part, tuple):
            told += [thing[:at] + (within,) + thing[at + 1:] for within in with_lists(part)]
    return told


def all_rows_of(names):
    return [row for many in range(len(names) + 1) for row in itertools.permutations(names, many)]


def orders_that_keep(rows):
    """By the words of point 5: tried one by one, in the order of point 6."""
    ranks = {}
    for rank, row in enumerate(rows):
        for name in row:
            ranks.setdefault(name, rank)
    fit = []
    for order in itertools.permutations(sorted(ranks)):
        place = {name: at for at, name in enumerate(order)}
        if all(place[a] < place[b] for row in rows for a, b in zip(row, row[1:])):
            fit.append(order)
    return sorted(fit, key=lambda order: [ranks[name] for name in order])


def ring_by_the_words(rows, ring):
    """Point 7, of a tuple of triples."""
    if len(ring) < 2 or len({a for k, a, b in ring}) != len(ring):
        return False
    for at, (k, a, b) in enumerate(ring):
        if not 0 <= k < len(rows) or (a, b) not in itertools.combinations(rows[k], 2):
            return False
        if b != ring[(at + 1) % len(ring)][1]:
            return False
    return True


def forebears(above, kind):
    """The kind and all that its parents lead to, of a dict of parents."""
    reached = [kind]
    for other in reached:
        reached += [parent for parent in above[other] if parent not in reached]
    return set(reached)


def leads_round(above):
    return any(kind in forebears(above, parent) for kind in above for parent in above[kind])


def rows_by_the_words(lines, parents):
    return tuple(lines[parent] for parent in parents) + (tuple(parents),)


def lines_by_the_words(above):
    """Point 8, of parents that do not lead round: lines by kind, and the kinds whose rows have a ring."""
    lines, rings, orders = {}, {}, {}
    left = sorted(above)
    while left:
        for kind in list(left):
            if not any(parent in left for parent in above[kind]):
                left.remove(kind)
                if any(parent not in lines for parent in above[kind]):
                    continue
                rows = rows_by_the_words(lines, above[kind])
                if rows not in orders:
                    orders[rows] = orders_that_keep(rows)
                if orders[rows]:
                    lines[kind] = (kind,) + orders[rows][0]
                else:
                    rings[kind] = rows
    return lines, rings


def is_way(above, a, b, way):
    """Point 9, of a tuple of kinds."""
    if not isinstance(way, tuple) or way[:1] != (a,) or way[-1:] != (b,):
        return False
    return all(there in above[here] for here, there in zip(way, way[1:]))


def family_of(above):
    """A dict of parents as a sorted tuple of pairs."""
    return tuple(sorted((kind, tuple(parents)) for kind, parents in above.items()))


def parents_by_chance(chance, kinds, most=7):
    """A dict of parents that do not lead round."""
    order = chance.sample(list(kinds), len(kinds))
    above = {}
    for at, kind in enumerate(order):
        many = min(at, chance.choice((0, 1, 1, 2, 2, 3, 4)))
        above[kind] = tuple(chance.sample(order[:at], many))
        if len(forebears(above, kind)) > most:
            above[kind] = above[kind][:1]
    return above


def behind_in(line, behind):
    return line if behind == "" else line[line.index(behind) + 1:]


def found_by_the_words(line, book, name, behind):
    """Point 13."""
    kinds = behind_in(line, behind)
    fit = sorted((kinds.index(kind), kind, entry) for kind, other, entry in book if other == name and kind in kinds)
    return fit[0][1:] if fit else None


LINES_TOLD = {}


def lines_in(family):
    """The lines of a family by the words of point 8, made once for each family."""
    if family not in LINES_TOLD:
        LINES_TOLD[family] = lines_by_the_words(dict(family))[0]
    return LINES_TOLD[family]


class ByTheWords:
    """What one thing of a world tells, by the words of points 15 to 17."""

    def __init__(self, world, thing):
        family, self.book, things = world
        kind, own = {name: (kind, own) for name, kind, own in things}[thing]
        self.line = lines_in(family)[kind]
        self.own = dict(own)
        self.told = {}

    def entry_of(self, name, behind):
        """What is found of an asking, or None where the thing's own number is told, or nothing."""
        found = found_by_the_words(self.line, self.book, name, behind)
        if behind == "" and name in self.own and (found is None or found[1][0] in ("plain", "behind")):
            return None
        return found

    def asks(self, name, behind):
        """The askings that the entry comes to, in order, with a number or a factor where a step has one."""
        where, entry = self.entry_of(name, behind)
        if entry[0] == "ahead":
            return [("ask", (entry[1], "")), ("add", entry[2])]
        if entry[0] == "plain":
            return [("add", entry[1])]
        steps = []
        for step in entry[1]:
            if step == ("onward",):
                if found_by_the_words(self.line, self.book, name, where):
                    steps.append(("ask", (name, where)))
            else:
                steps.append((step[0], (step[1], "")) if step[0] == "ask" else step)
        return steps

    def tells(self, name, behind="", standing=()):
        """("number", n), ("missing", name) or ("endless",)."""
        asking = (name, behind)
        if not standing:
            self.told = {}
        if asking in standing:
            return ("endless",)
        if asking not in self.told:
            self.told[asking] = self.reckoned(name, behind, standing + (asking,))
        return self.told[asking]

    def reckoned(self, name, behind, standing):
        if self.entry_of(name, behind) is None:
            if behind == "" and name in self.own:
                return ("number", self.own[name])
            return ("missing", name)
        total = 0
        for word, what in self.asks(name, behind):
            if word == "times":
                total *= what
            elif word == "add":
                total += what
            else:
                answer = self.tells(what[0], what[1], standing)
                if answer[0] != "number":
                    return answer
                total += answer[1]
        return ("number", total)

    def names_come_to(self, name, behind=""):
        """The names asked behind none by the entry that tells a name, and by those its onward steps lead to."""
        if self.entry_of(name, behind) is None:
            return set()
        askings = [what for word, what in self.asks(name, behind) if word == "ask"]
        names = {other for other, back in askings if back == ""}
        for other, back in askings:
            if back != "":
                names |= self.names_come_to(other, back)
        return names

    def is_round(self, names):
        """Point 17, of the value of Endless."""
        if not isinstance(names, tuple) or not names or len(set(names)) != len(names):
            return False
        return all(there in self.names_come_to(here) for here, there in zip(names, names[1:] + names[:1]))


    def is_right(self, row, ahead):
        """Point 19, of a tuple of four, by the numbers of the askings that have their rows ahead."""
        name, behind, where, number = row
        found = self.entry_of(name, behind)
        if found is None:
            return behind == "" and name in self.own and (where, number) == ("", self.own[name])
        total = 0
        for word, what in self.asks(name, behind):
            if word == "ask" and what not in ahead:
                return False
            total = total * what if word == "times" else total + (ahead[what] if word == "ask" else what)
        return (where, number) == (found[0], total)

    def is_paper(self, rows):
        """Point 19, of a list of tuples (name, behind, where, number)."""
        ahead = {}
        for row in rows:
            if row[:2] in ahead or not self.is_right(row, ahead):
                return False
            ahead[row[:2]] = row[3]
        return True

    def askings_within(self, name, behind=""):
        """The askings that an asking which tells a number comes to, itself too."""
        reached = [(name, behind)]
        for asking in reached:
            if self.entry_of(*asking) is not None:
                come_to = [what for word, what in self.asks(*asking) if word == "ask"]
                reached += [other for other in dict.fromkeys(come_to) if other not in reached]
        return reached


class HouseByTheWords:
    """A house by the words of points 20 to 24: plain functions make its worlds, it keeps and drops by the words."""

    def __init__(self, world=((), (), ())):
        self.world = world
        self.finds = {}
        self.numbers = {}
        self.walked = self.reckoned = self.deeds = 0
        self.last = {}

    def line(self, kind):
        return lines_in(self.world[0])[kind]

    def kind_of(self, thing):
        return {name: kind for name, kind, own in self.world[2]}[thing]

    def own_of(self, thing):
        return {name: dict(own) for name, kind, own in self.world[2]}[thing]

    def look(self, kind, name, behind=""):
        """Point 21."""
        found = found_by_the_words(self.line(kind), self.world[1], name, behind)
        if (kind, name, behind) not in self.finds:
            kinds = behind_in(self.line(kind), behind)
            self.walked += len(kinds) if found is None else kinds.index(found[0]) + 1
            self.finds[(kind, name, behind)] = "" if found is None else found[0]
        return found

    def ask(self, thing, name, behind=""):
        """Point 22: ("number", n), ("missing", name) or ("endless",)."""
        return self.tell(thing, (name, behind), (), {})[0]

    def tell(self, thing, asking, standing, plain):
        """What is told of an asking, and the names that it rests on."""
        if (thing,) + asking in self.numbers:
            number, names = self.numbers[(thing,) + asking]
            return ("number", number), names
        if asking in standing:
            return ("endless",), None
        if asking in plain:
            return plain[asking]
        name, behind = asking
        found = self.look(self.kind_of(thing), name, behind)
        own = self.own_of(thing)
        if behind == "" and name in own and (found is None or found[1][0] in ("plain", "behind")):
            plain[asking] = ("number", own[name]), {name}
        elif found is None:
            return ("missing", name), None
        elif found[1][0] == "plain":
            plain[asking] = ("number", found[1][1]), {name}
        else:
            return self.reckon(thing, asking, found, standing + (asking,), plain)
        return plain[asking]

    def reckon(self, thing, asking, found, standing, plain):
        self.reckoned += 1
        where, entry = found
        steps = entry[1]
        if entry[0] == "ahead":
            steps = (("ask", entry[1]), ("add", entry[2]))
        total, names = 0, {asking[0]}
        for step in steps:
            if step[0] == "add":
                total += step[1]
            elif step[0] == "times":
                total *= step[1]
            else:
                other = (step[1], "") if step[0] == "ask" else (asking[0], where)
                if step[0] == "onward" and (thing,) + other not in self.numbers:
                    if self.look(self.kind_of(thing), *other) is None:
                        continue
                told, rests = self.tell(thing, other, standing, plain)
                if told[0] != "number":
                    return told, None
                total += told[1]
                names = names | rests
        self.numbers[(thing,) + asking] = (total, names)
        return ("number", total), names

    def end_of_way(self, thing, name):
        """Point 18: the names on the way are looked for, the last one too; told is the last one."""
        passed = []
        while name not in passed:
            passed.append(name)
            found = self.look(self.kind_of(thing), name)
            if found is None or found[1][0] != "ahead":
                break
            name = found[1][1]
        return name

    def beneath(self, kind):
        return [other for other, parents in self.world[0] if kind in self.line(other)]

    def done(self, word, world, *handed):
        """A deed that is not refused makes this world: what it drops, points 21 and 22; what it counts, point 24."""
        before, self.world = self.world, world
        if word in ("make", "change", "give", "take"):
            self.deeds += 1
            self.last[handed[0]] = self.deeds
        if word == "let_go":
            self.keep(lambda kind, name: kind != handed[0], lambda thing, names: True)
        if word in ("change", "give", "take"):
            kinds = self.beneath(handed[0])
            things = [thing for thing, kind, own in world[2] if kind in kinds]
            if word == "change":
                self.keep(lambda kind, name: kind not in kinds, lambda thing, names: thing not in things)
            else:
                self.keep(lambda kind, name: kind not in kinds or name != handed[1],
                          lambda thing, names: thing not in things or handed[1] not in names)
        if word in ("end", "turn"):
            self.keep(lambda kind, name: True, lambda thing, names: thing != handed[0])
        if word in ("put", "drop"):
            self.world = before
            last = self.end_of_way(handed[0], handed[1])
            self.world = world
            self.keep(lambda kind, name: True, lambda thing, names: thing != handed[0] or last not in names)

    def keep(self, of_finds, of_numbers):
        self.finds = {key: told for key, told in self.finds.items() if of_finds(key[0], key[1])}
        self.numbers = {key: told for key, told in self.numbers.items() if of_numbers(key[0], told[1])}

    def kept_finds(self, kind):
        return sorted(key[1:] + (where,) for key, where in self.finds.items() if key[0] == kind)

    def kept_numbers(self, thing):
        return sorted(key[1:] + (told[0],) for key, told in self.numbers.items() if key[0] == thing)

    def rests(self, thing, name, behind=""):
        told = self.numbers.get((thing, name, behind))
        return None if told is None else sorted(told[1])

    def stamp(self, kind):
        return max(self.last.get(other, 0) for other in self.line(kind))


def family_let_go(world, kind):
    """Point 20's letting go, of a world."""
    family = kind_let_go(world[0], kind)
    if kind in [other for thing, other, own in world[2]]:
        raise InUse("a thing is of that kind")
    return (family, tuple(triple for triple in world[1] if triple[0] != kind), world[2])


# What a house's deeds do to its world, by the plain functions.
PLAINLY = {
    "make": lambda world, kind, parents: (kind_made(world[0], kind, parents),) + world[1:],
    "change": lambda world, kind, parents: (kind_changed(world[0], kind, parents),) + world[1:],
    "let_go": family_let_go,
    "give": lambda world, kind, name, entry: (world[0], name_given(world[0], world[1], kind, name, entry), world[2]),
    "take": lambda world, kind, name: (world[0], name_taken(world[0], world[1], kind, name), world[2]),
    "begin": thing_begun, "end": thing_ended, "turn": thing_turned, "put": number_put, "drop": number_dropped,
}


def outcome(deed, *handed, rounds=None):
    """What a call tells, or the refusal's class, with the name that is missing; rounds of names go into the list."""
    try:
        return ("told", deed(*handed))
    except LineError as refusal:
        if rounds is not None and type(refusal) is Endless:
            rounds.append(refusal.names)
        return (type(refusal), refusal.name if type(refusal) is Missing else None)


def by_the_words(told):
    """The outcome of an asking as the houses by the words tell it."""
    return {"told": ("number", told[1]), Missing: ("missing", told[1]), Endless: ("endless",)}[told[0]]


def kept_by(house):
    """All that a house tells of itself without looking for anything."""
    family, book, things = house.world()
    finds = {kind: house.kept_finds(kind) for kind, parents in family}
    numbers = {thing: house.kept_numbers(thing) for thing, kind, own in things}
    rests = {(thing,) + row[:2]: house.rests(thing, *row[:2]) for thing in numbers for row in numbers[thing]}
    stamps = {kind: house.stamp(kind) for kind, parents in family}
    lines = {kind: house.line(kind) for kind, parents in family}
    return (house.world(), lines, finds, numbers, rests, stamps, house.walked(), house.reckoned())


def kept_by_the_words(model):
    """The same of a house by the words."""
    family, book, things = model.world
    finds = {kind: model.kept_finds(kind) for kind, parents in family}
    numbers = {thing: model.kept_numbers(thing) for thing, kind, own in things}
    rests = {(thing,) + row[:2]: model.rests(thing, *row[:2]) for thing in numbers for row in numbers[thing]}
    stamps = {kind: model.stamp(kind) for kind, parents in family}
    return (model.world, dict(lines_in(family)), finds, numbers, rests, stamps, model.walked, model.reckoned)


def all_told(house):
    """All that a house tells of kinds and things; of refusals the class, and the name that is missing."""
    told = {asking: outcome(house.ask, *asking) for asking in askings_of(house.world())}
    for kind, parents in house.world()[0]:
        told[kind] = house.line(kind)
        for name in NAMES:
            for behind in ("",) + house.line(kind):
                told[("at", kind, name, behind)] = house.found(kind, name, behind)
    return told


def told_plainly(world):
    """The same by the plain functions."""
    told = {asking: outcome(number_asked, world, *asking) for asking in askings_of(world)}
    for kind, parents in world[0]:
        told[kind] = line_of(world[0], kind)
        for name in NAMES:
            for behind in ("",) + told[kind]:
                told[("at", kind, name, behind)] = found_at(world[0], world[1], kind, name, behind)
    return told


class Twins(Refusing):
    """A house and one by the words, to which the same is done."""

    def both(self, house, model):
        self.house, self.model = house, model
        self.alike()

    def alike(self):
        self.assertEqual(kept_by(self.house), kept_by_the_words(self.model))

    def do(self, word, *handed):
        """A deed of both; told is the refusal's class, or None."""
        would, rounds = outcome(PLAINLY[word], self.model.world, *handed), []
        told = outcome(getattr(self.house, word), *handed, rounds=rounds)
        self.assertTrue(all(ByTheWords(self.model.world, handed[0]).is_round(names) for names in rounds))
        if would[0] == "told":
            self.assertEqual(told, ("told", None), (word, handed))
            self.model.done(word, would[1], *handed)
        else:
            self.assertEqual(told, would, (word, handed))
            if would[0].__name__ in ("Shut", "Endless", "Missing"):
                self.model.end_of_way(handed[0], handed[1])
        self.alike()
        return None if would[0] == "told" else would[0]

    def ask(self, thing, name, behind=""):
        """An asking of both, and of the world that both have; told is its sort."""
        rounds = []
        told = outcome(self.house.ask, thing, name, behind, rounds=rounds)
        self.assertTrue(all(ByTheWords(self.model.world, thing).is_round(names) for names in rounds))
        self.assertEqual(told, outcome(number_asked, self.model.world, thing, name, behind))
        would = self.model.ask(thing, name, behind)
        self.assertEqual(would, by_the_words(told))
        self.alike()
        return would[0]

    def find(self, kind, name, behind=""):
        """A name looked for at a kind of both."""
        told = self.house.found(kind, name, behind)
        self.assertEqual(told, self.model.look(kind, name, behind))
        self.assertEqual(told, found_at(self.model.world[0], self.model.world[1], kind, name, behind))
        self.alike()


KINDS, NAMES, THINGS = "uvwxyz", "abcde", "pqrs"


def deed_by_chance(chance, world):
    """A deed's name and what is handed to it, which may be refused."""
    kinds = [kind for kind, parents in world[0]]
    things = [thing for thing, kind, own in world[2]]
    kind, name = chance.choice(kinds or KINDS), chance.choice(NAMES)
    thing = chance.choice(things or THINGS)
    if chance.random() < 0.1:
        kind, thing = chance.choice(KINDS), chance.choice(THINGS)
    word = chance.choice(
        ("make",) * 4 + ("change",) * 4 + ("let_go",) + ("give",) * 10 + ("take",) * 3 + ("begin",) * 3 + ("end",)
        + ("turn",) * 3 + ("put",) * 5 + ("drop",) * 2)
    parents = tuple(chance.sample(kinds, min(len(kinds), chance.choice((0, 1, 1, 2, 2, 3)))))
    if word == "make":
        return (word, chance.choice(KINDS), parents)
    if word == "change":
        # Now and then the parents that it has.
        return (word, kind, dict(world[0]).get(kind, parents) if chance.random() < 0.2 else parents)
    if word == "give":
        had = {triple[:2]: triple[2] for triple in world[1]}.get((kind, name))
        return (word, kind, name, had if had and chance.random() < 0.2 else entry_by_chance(chance, NAMES))
    if word == "take":
        has = [triple[1] for triple in world[1] if triple[0] == kind]
        return (word, kind, chance.choice(has or NAMES))
    if word == "begin":
        return (word, chance.choice(THINGS), kind)
    if word == "turn":
        return (word, thing, kind)
    if word == "put":
        return (word, thing, name, chance.randint(-9, 9))
    if word == "drop":
        own = [pair[0] for other, kind, own in world[2] for pair in own if other == thing]
        return (word, thing, chance.choice(own or NAMES))
    return (word, kind if word == "let_go" else thing)


class AskerByTheWords:
    """Point 25, of a house by the words; the oldest pair first."""

    def __init__(self, model, name, many=1):
        self.model, self.name, self.many = model, name, many
        self.pairs, self.misses = [], 0

    def tells(self, thing):
        kind = self.model.kind_of(thing)
        pair = (kind, self.model.stamp(kind))
        if pair not in self.pairs:
            self.misses += 1
            self.model.look(kind, self.name)
            same = [other for other in self.pairs if other[0] == kind]
            gone = same or (self.pairs[:1] if len(self.pairs) == self.many else [])
            self.pairs = [other for other in self.pairs if other not in gone] + [pair]
        return self.model.ask(thing, self.name)


class GoerByTheWords:
    """Point 26, of a house by the words."""

    def __init__(self, model, thing, name):
        self.model, self.thing, self.name, self.place = model, thing, name, ""

    def go(self):
        """("told", a kind or None), or the refusal's class with None."""
        if self.thing not in [thing for thing, kind, own in self.model.world[2]]:
            return (NoThing, None)
        kind = self.model.kind_of(self.thing)
        if self.place not in ("",) + self.model.line(kind):
            return (NotAbove, None)
        found = self.model.look(kind, self.name, self.place)
        if found is not None:
            self.place = found[0]
        return ("told", found and found[0])


def book_of(entries):
    """A book of a dict of entries, by texts of a kind of one letter and a name."""
    return tuple(sorted((place[0], place[1:], entry) for place, entry in entries.items()))


def entry_text(entry):
    """An entry as point 27 writes it."""
    words = [entry[0]]
    for part in entry[1:]:
        words += [str(word) for step in part for word in step] if isinstance(part, tuple) else [str(part)]
    return " ".join(words)


def entry_by_chance(chance, names):
    word = chance.choice(("plain", "ahead", "behind", "behind", "shut"))
    if word == "plain":
        return (word, chance.randint(-20, 20))
    if word == "ahead":
        return (word, chance.choice(names), chance.randint(-5, 5))
    steps = []
    for turn in range(chance.randint(0, 4)):
        steps.append(chance.choice((
            ("add", chance.randint(-9, 9)), ("times", chance.randint(-9, 9)), ("ask", chance.choice(names)),
            ("ask", chance.choice(names)), ("onward",), ("onward",))))
    return (word, tuple(steps))


def world_by_chance(chance):
    """A world of up to six kinds, five names and three things."""
    above = parents_by_chance(chance, "uvwxyz"[:chance.randint(1, 6)])
    if lines_by_the_words(above)[1]:
        return world_by_chance(chance)
    names = "abcde"[:chance.randint(2, 5)]
    book = {}
    for turn in range(chance.randint(0, 30)):
        book[(chance.choice(sorted(above)), chance.choice(names))] = entry_by_chance(chance, names)
    things = {}
    for turn in range(chance.randint(1, 3)):
        own = {chance.choice(names): chance.randint(-30, 30) for number in range(chance.choice((0, 0, 1, 2)))}
        things[chance.choice("pqrs")] = (chance.choice(sorted(above)), tuple(sorted(own.items())))
    return (
        family_of(above),
        tuple(sorted((kind, name, entry) for (kind, name), entry in book.items())),
        tuple(sorted((thing, kind, own) for thing, (kind, own) in things.items())))


def chain_world(steps_on, steps_over, last):
    """Six names at each of eight kinds of one line: onward along the line, then over to the next name."""
    kinds, names = "abcdefgh", ("na", "nb", "nc", "nd", "ne", "nf")
    family = tuple((kind, tuple(kinds[at + 1:at + 2])) for at, kind in enumerate(kinds))
    book = []
    for kind in kinds:
        for name, over in zip(names, names[1:] + ("",)):
            entry = ("behind", tuple(steps_on))
            if kind == "h":
                entry = ("behind", tuple((word, over) for word in steps_over)) if over else last
            book.append((kind, name, entry))
    return (family, tuple(book), (("t", "a", ()),))


def askings_of(world):
    """Each thing of the world with each name and each kind behind which it may be asked."""
    lines = lines_in(world[0])
    return [(thing, name, behind) for thing, kind, own in world[2] for name in "abcdef"
            for behind in ("",) + lines[kind]]

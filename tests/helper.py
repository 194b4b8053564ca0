"""Things of all kinds, for what takes anything; and what the document's words tell, tried one by one."""

import itertools
import unittest

from parentlines.errors import LineError


class Refusing(unittest.TestCase):
    def refused(self, error, deed, *handed):
        """The refusal of a call, which must be of just this class."""
        with self.assertRaises(LineError) as caught:
            deed(*handed)
        self.assertIs(type(caught.exception), error, handed)
        return caught.exception


class Prickly:
    """Fails when it is compared, measured, walked or asked for its hash."""

    def refuse(self, *others):
        raise RuntimeError("touched")

    __eq__ = __ne__ = __lt__ = __le__ = __gt__ = __ge__ = refuse
    __hash__ = __len__ = __iter__ = __bool__ = __getitem__ = __contains__ = refuse


def endless_list():
    """A list that holds itself."""
    box = []
    box.append(box)
    return box


def anything():
    """Things that are no names, no rows, no rings, no families, no entries, no books and no worlds."""
    plain = [
        None, True, False, 0, 1, -1, 10 ** 30, "", " ", "A", "a b", "ab1", "abcdefghi", "\u00e9", "a\n",
        b"", b"a", [], ["a"], ["a", "b"], {}, {"a": "b"}, {"a"}, set(), frozenset("a"), range(2),
        len, str, object(), Prickly(), endless_list(), iter("ab"), ValueError("a"),
    ]
    held = [(thing,) for thing in plain]
    pairs = [("a", thing) for thing in plain] + [(thing, thing) for thing in plain]
    triples = [(thing, "a", "b") for thing in plain] + [(0, thing, "b") for thing in plain]
    triples += [(0, "a", thing) for thing in plain]
    return plain + held + pairs + triples


def places(thing, other):
    """The tuple with another thing in each of its places, and in those of its tuples, one at a time."""
    told = [thing[:at] + (other,) + thing[at + 1:] for at in range(len(thing))]
    for at, part in enumerate(thing):
        if isinstance(part, tuple):
            told += [thing[:at] + (within,) + thing[at + 1:] for within in places(part, other)]
    return told


def with_lists(thing):
    """The tuple with a list in the place of it, and of each of its tuples, one at a time."""
    told = [list(thing)]
    for at, part in enumerate(thing):
        if isinstance(part, tuple):
            told += [thing[:at] + (within,) + thing[at + 1:] for within in with_lists(part)]
    return told


def all_rows_of(names):
    return [row for many in range(len(names) + 1) for row in itertools.permutations(names, many)]


def orders_that_keep(rows):
    """By the words of point 5: tried one by one, in the order of point 6."""
    ranks = {}
    for rank, row in enumerate(rows):
        for name in row:
            ranks.setdefault(name, rank)
    fit = []
    for order in itertools.permutations(sorted(ranks)):
        place = {name: at for at, name in enumerate(order)}
        if all(place[a] < place[b] for row in rows for a, b in zip(row, row[1:])):
            fit.append(order)
    return sorted(fit, key=lambda order: [ranks[name] for name in order])


def ring_by_the_words(rows, ring):
    """Point 7, of a tuple of triples."""
    if len(ring) < 2 or len({a for k, a, b in ring}) != len(ring):
        return False
    for at, (k, a, b) in enumerate(ring):
        if not 0 <= k < len(rows) or (a, b) not in itertools.combinations(rows[k], 2):
            return False
        if b != ring[(at + 1) % len(ring)][1]:
            return False
    return True


def forebears(above, kind):
    """The kind and all that its parents lead to, of a dict of parents."""
    reached = [kind]
    for other in reached:
        reached += [parent for parent in above[other] if parent not in reached]
    return set(reached)


def leads_round(above):
    return any(kind in forebears(above, parent) for kind in above for parent in above[kind])


def rows_by_the_words(lines, parents):
    return tuple(lines[parent] for parent in parents) + (tuple(parents),)


def lines_by_the_words(above):
    """Point 8, of parents that do not lead round: lines by kind, and the kinds whose rows have a ring."""
    lines, rings, orders = {}, {}, {}
    left = sorted(above)
    while left:
        for kind in list(left):
            if not any(parent in left for parent in above[kind]):
                left.remove(kind)
                if any(parent not in lines for parent in above[kind]):
                    continue
                rows = rows_by_the_words(lines, above[kind])
                if rows not in orders:
                    orders[rows] = orders_that_keep(rows)
                if orders[rows]:
                    lines[kind] = (kind,) + orders[rows][0]
                else:
                    rings[kind] = rows
    return lines, rings


def is_way(above, a, b, way):
    """Point 9, of a tuple of kinds."""
    if not isinstance(way, tuple) or way[:1] != (a,) or way[-1:] != (b,):
        return False
    return all(there in above[here] for here, there in zip(way, way[1:]))


def family_of(above):
    """A dict of parents as a sorted tuple of pairs."""
    return tuple(sorted((kind, tuple(parents)) for kind, parents in above.items()))


def parents_by_chance(chance, kinds, most=7):
    """A dict of parents that do not lead round."""
    order = chance.sample(list(kinds), len(kinds))
    above = {}
    for at, kind in enumerate(order):
        many = min(at, chance.choice((0, 1, 1, 2, 2, 3, 4)))
        above[kind] = tuple(chance.sample(order[:at], many))
        if len(forebears(above, kind)) > most:
            above[kind] = above[kind][:1]
    return above


def behind_in(line, behind):
    return line if behind == "" else line[line.index(behind) + 1:]


def found_by_the_words(line, book, name, behind):
    """Point 13."""
    kinds = behind_in(line, behind)
    fit = sorted((kinds.index(kind), kind, entry) for kind, other, entry in book if other == name and kind in kinds)
    return fit[0][1:] if fit else None


class ByTheWords:
    """What one thing of a world tells, by the words of points 15 to 17."""

    def __init__(self, world, thing):
        family, self.book, things = world
        kind, own = {name: (kind, own) for name, kind, own in things}[thing]
        self.line = lines_by_the_words(dict(family))[0][kind]
        self.own = dict(own)
        self.told = {}

    def entry_of(self, name, behind):
        """What is found of an asking, or None where the thing's own number is told, or nothing."""
        found = found_by_the_words(self.line, self.book, name, behind)
        if behind == "" and name in self.own and (found is None or found[1][0] in ("plain", "behind")):
            return None
        return found

    def asks(self, name, behind):
        """The askings that the entry comes to, in order, with a number or a factor where a step has one."""
        where, entry = self.entry_of(name, behind)
        if entry[0] == "ahead":
            return [("ask", (entry[1], "")), ("add", entry[2])]
        if entry[0] == "plain":
            return [("add", entry[1])]
        steps = []
        for step in entry[1]:
            if step == ("onward",):
                if found_by_the_words(self.line, self.book, name, where):
                    steps.append(("ask", (name, where)))
            else:
                steps.append((step[0], (step[1], "")) if step[0] == "ask" else step)
        return steps

    def tells(self, name, behind="", standing=()):
        """("number", n), ("missing", name) or ("endless",)."""
        asking = (name, behind)
        if not standing:
            self.told = {}
        if asking in standing:
            return ("endless",)
        if asking not in self.told:
            self.told[asking] = self.reckoned(name, behind, standing + (asking,))
        return self.told[asking]

    def reckoned(self, name, behind, standing):
        if self.entry_of(name, behind) is None:
            if behind == "" and name in self.own:
                return ("number", self.own[name])
            return ("missing", name)
        total = 0
        for word, what in self.asks(name, behind):
            if word == "times":
                total *= what
            elif word == "add":
                total += what
            else:
                answer = self.tells(what[0], what[1], standing)
                if answer[0] != "number":
                    return answer
                total += answer[1]
        return ("number", total)

    def names_come_to(self, name, behind=""):
        """The names asked behind none by the entry that tells a name, and by those its onward steps lead to."""
        if self.entry_of(name, behind) is None:
            return set()
        askings = [what for word, what in self.asks(name, behind) if word == "ask"]
        names = {other for other, back in askings if back == ""}
        for other, back in askings:
            if back != "":
                names |= self.names_come_to(other, back)
        return names

    def is_round(self, names):
        """Point 17, of the value of Endless."""
        if not isinstance(names, tuple) or not names or len(set(names)) != len(names):
            return False
        return all(there in self.names_come_to(here) for here, there in zip(names, names[1:] + names[:1]))


def book_of(entries):
    """A book of a dict of entries, by texts of a kind of one letter and a name."""
    return tuple(sorted((place[0], place[1:], entry) for place, entry in entries.items()))


def entry_by_chance(chance, names):
    word = chance.choice(("plain", "ahead", "behind", "behind", "shut"))
    if word == "plain":
        return (word, chance.randint(-20, 20))
    if word == "ahead":
        return (word, chance.choice(names), chance.randint(-5, 5))
    steps = []
    for turn in range(chance.randint(0, 4)):
        steps.append(chance.choice((
            ("add", chance.randint(-9, 9)), ("times", chance.randint(-9, 9)), ("ask", chance.choice(names)),
            ("ask", chance.choice(names)), ("onward",), ("onward",))))
    return (word, tuple(steps))


def world_by_chance(chance):
    """A world of up to six kinds, five names and three things."""
    above = parents_by_chance(chance, "uvwxyz"[:chance.randint(1, 6)])
    if lines_by_the_words(above)[1]:
        return world_by_chance(chance)
    names = "abcde"[:chance.randint(2, 5)]
    book = {}
    for turn in range(chance.randint(0, 30)):
        book[(chance.choice(sorted(above)), chance.choice(names))] = entry_by_chance(chance, names)
    things = {}
    for turn in range(chance.randint(1, 3)):
        own = {chance.choice(names): chance.randint(-30, 30) for number in range(chance.choice((0, 0, 1, 2)))}
        things[chance.choice("pqrs")] = (chance.choice(sorted(above)), tuple(sorted(own.items())))
    return (
        family_of(above),
        tuple(sorted((kind, name, entry) for (kind, name), entry in book.items())),
        tuple(sorted((thing, kind, own) for thing, (kind, own) in things.items())))


def askings_of(world):
    """Each thing of the world with each name and each kind behind which it may be asked."""
    lines = lines_by_the_words(dict(world[0]))[0]
    return [(thing, name, behind) for thing, kind, own in world[2] for name in "abcdef"
            for behind in ("",) + lines[kind]]

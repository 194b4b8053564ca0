"""Things of all kinds, for what takes anything; and what the document's words tell, tried one by one."""

import itertools


class Prickly:
    """Fails when it is compared, measured, walked or asked for its hash."""

    def refuse(self, *others):
        raise RuntimeError("touched")

    __eq__ = __ne__ = __lt__ = __le__ = __gt__ = __ge__ = refuse
    __hash__ = __len__ = __iter__ = __bool__ = __getitem__ = __contains__ = refuse


def endless_list():
    """A list that holds itself."""
    box = []
    box.append(box)
    return box


def anything():
    """Things that are no names, no rows, no rings, no families, no entries, no books and no worlds."""
    plain = [
        None, True, False, 0, 1, -1, 10 ** 30, "", " ", "A", "a b", "ab1", "abcdefghi", "\u00e9", "a\n",
        b"", b"a", [], ["a"], ["a", "b"], {}, {"a": "b"}, {"a"}, set(), frozenset("a"), range(2),
        len, str, object(), Prickly(), endless_list(), iter("ab"), ValueError("a"),
    ]
    held = [(thing,) for thing in plain]
    pairs = [("a", thing) for thing in plain] + [(thing, thing) for thing in plain]
    triples = [(thing, "a", "b") for thing in plain] + [(0, thing, "b") for thing in plain]
    triples += [(0, "a", thing) for thing in plain]
    return plain + held + pairs + triples


def places(thing, other):
    """The tuple with another thing in each of its places, and in those of its tuples, one at a time."""
    told = [thing[:at] + (other,) + thing[at + 1:] for at in range(len(thing))]
    for at, part in enumerate(thing):
        if isinstance(part, tuple):
            told += [thing[:at] + (within,) + thing[at + 1:] for within in places(part, other)]
    return told


def with_lists(thing):
    """The tuple with a list in the place of it, and of each of its tuples, one at a time."""
    told = [list(thing)]
    for at, part in enumerate(thing):
        if isinstance(part, tuple):
            told += [thing[:at] + (within,) + thing[at + 1:] for within in with_lists(part)]
    return told


def all_rows_of(names):
    return [row for many in range(len(names) + 1) for row in itertools.permutations(names, many)]


def orders_that_keep(rows):
    """By the words of point 5: tried one by one, in the order of point 6."""
    ranks = {}
    for rank, row in enumerate(rows):
        for name in row:
            ranks.setdefault(name, rank)
    fit = []
    for order in itertools.permutations(sorted(ranks)):
        place = {name: at for at, name in enumerate(order)}
        if all(place[a] < place[b] for row in rows for a, b in zip(row, row[1:])):
            fit.append(order)
    return sorted(fit, key=lambda order: [ranks[name] for name in order])


def ring_by_the_words(rows, ring):
    """Point 7, of a tuple of triples."""
    if len(ring) < 2 or len({a for k, a, b in ring}) != len(ring):
        return False
    for at, (k, a, b) in enumerate(ring):
        if not 0 <= k < len(rows) or (a, b) not in itertools.combinations(rows[k], 2):
            return False
        if b != ring[(at + 1) % len(ring)][1]:
            return False
    return True


def forebears(above, kind):
    """The kind and all that its parents lead to, of a dict of parents."""
    reached = [kind]
    for other in reached:
        reached += [parent for parent in above[other] if parent not in reached]
    return set(reached)


def leads_round(above):
    return any(kind in forebears(above, parent) for kind in above for parent in above[kind])


def rows_by_the_words(lines, parents):
    return tuple(lines[parent] for parent in parents) + (tuple(parents),)


def lines_by_the_words(above):
    """Point 8, of parents that do not lead round: lines by kind, and the kinds whose rows have a ring."""
    lines, rings, orders = {}, {}, {}
    left = sorted(above)
    while left:
        for kind in list(left):
            if not any(parent in left for parent in above[kind]):
                left.remove(kind)
                if any(parent not in lines for parent in above[kind]):
                    continue
                rows = rows_by_the_words(lines, above[kind])
                if rows not in orders:
                    orders[rows] = orders_that_keep(rows)
                if orders[rows]:
                    lines[kind] = (kind,) + orders[rows][0]
                else:
                    rings[kind] = rows
    return lines, rings


def is_way(above, a, b, way):
    """Point 9, of a tuple of kinds."""
    if not isinstance(way, tuple) or way[:1] != (a,) or way[-1:] != (b,):
        return False
    return all(there in above[here] for here, there in zip(way, way[1:]))


def family_of(above):
    """A dict of parents as a sorted tuple of pairs."""
    return tuple(sorted((kind, tuple(parents)) for kind, parents in above.items()))


def parents_by_chance(chance, kinds, most=7):
    """A dict of parents that do not lead round."""
    order = chance.sample(list(kinds), len(kinds))
    above = {}
    for at, kind in enumerate(order):
        many = min(at, chance.choice((0, 1, 1, 2, 2, 3, 4)))
        above[kind] = tuple(chance.sample(order[:at], many))
        if len(forebears(above, kind)) > most:
            above[kind] = above[kind][:1]
    return above

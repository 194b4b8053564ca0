"""Families: kinds and their parents, lines of forebears, ways along them and what lies beneath."""

from parentlines.errors import NoKind, Ring
from parentlines.rows import is_row, merged
from parentlines.words import are_rising, is_name

MOST_PARENTS = 4


def is_family(thing):
    """Whether a thing is a family."""
    if not isinstance(thing, tuple) or not all([is_pair(pair) for pair in thing]):
        return False
    if not are_rising([kind for kind, parents in thing]):
        return False
    if not all([are_parents(thing, parents) for kind, parents in thing]):
        return False
    try:
        return len(lines_of(thing)) == len(thing)
    except Ring:
        return False


def is_pair(thing):
    """Whether a thing is a pair of a name and a tuple of unlike names."""
    return isinstance(thing, tuple) and len(thing) == 2 and is_name(thing[0]) and is_row(thing[1])


def is_kind(family, thing):
    """Whether a thing is a kind of the family."""
    return is_name(thing) and thing in dict(family)


def are_parents(family, thing):
    """Whether a thing is a tuple of at most four unlike kinds of the family."""
    if not is_row(thing) or len(thing) > MOST_PARENTS:
        return False
    return all([is_kind(family, parent) for parent in thing])


def check_kind(family, thing):
    """Refuses with NoKind what is no kind of the family."""
    if not is_kind(family, thing):
        raise NoKind("no kind of the family")


def lines_of(family):
    """The line of each kind, by the kind, without those whose parents lead round.

    Refused with Ring at a kind whose parents have lines, but whose rows have a ring.
    """
    lines = {}
    waiting = list(family)
    while waiting:
        ready = [pair for pair in waiting if all([parent in lines for parent in pair[1]])]
        if not ready:
            return lines
        for kind, parents in ready:
            lines[kind] = line_from(lines, kind, parents)
        waiting = [pair for pair in waiting if pair[0] not in lines]
    return lines


def line_from(lines, kind, parents):
    """The line of a kind whose parents have theirs; refused with Ring."""
    rows = tuple([lines[parent] for parent in parents] + [parents])
    try:
        return (kind,) + merged(rows)
    except Ring as refusal:
        raise Ring(kind, refusal.ring) from None


def line_of(family, kind):
    """The kind and all its other forebears, in the earliest order that keeps its rows."""
    check_kind(family, kind)
    return lines_of(family)[kind]


def kinds_beneath(family, kind):
    """The kinds whose line has the kind, sorted."""
    check_kind(family, kind)
    lines = lines_of(family)
    return sorted([other for other in lines if kind in lines[other]])


def heirs_of(family, kind):
    """The kinds that have the kind as a parent, sorted."""
    check_kind(family, kind)
    return sorted([other for other, parents in family if kind in parents])


def way_of(family, a, b):
    """A way from parent to parent, from a kind to one of its forebears, or None where it is none."""
    check_kind(family, a)
    check_kind(family, b)
    lines = lines_of(family)
    if b not in lines[a]:
        return None
    above = dict(family)
    way = [a]
    while way[-1] != b:
        way.append([parent for parent in above[way[-1]] if b in lines[parent]][0])
    return tuple(way)

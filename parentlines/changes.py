"""Families with a kind more, with other parents of a kind, or without a kind."""

from parentlines.errors import InUse, NoParents, Round, Taken
from parentlines.families import are_parents, check_kind, heirs_of, is_kind, lines_of, way_of
from parentlines.words import check_name


def kind_made(family, kind, parents):
    """The family with a kind more; refused with NoName, Taken, NoParents, Ring."""
    check_name(kind)
    if is_kind(family, kind):
        raise Taken(f"there is a kind of this name: {kind}")
    check_parents(family, parents)
    return with_parents(family, kind, parents)


def kind_changed(family, kind, parents):
    """The family in which a kind has other parents; refused with NoKind, NoParents, Round, Ring."""
    check_kind(family, kind)
    check_parents(family, parents)
    for parent in parents:
        way = way_of(family, parent, kind)
        if way is not None:
            raise Round(way)
    return with_parents(family, kind, parents)


def kind_let_go(family, kind):
    """The family without a kind; refused with NoKind, InUse."""
    check_kind(family, kind)
    if heirs_of(family, kind):
        raise InUse(f"the kind has heirs: {kind}")
    return without_kind(family, kind)


def check_parents(family, thing):
    """Refuses with NoParents what is no tuple of at most four unlike kinds of the family."""
    if not are_parents(family, thing):
        raise NoParents("no tuple of at most four unlike kinds of the family")


def with_parents(family, kind, parents):
    """The family in which a kind, there or not, has these parents; refused with Ring."""
    told = tuple(sorted(without_kind(family, kind) + ((kind, parents),)))
    # All lines are tried, since a ring may show only at a kind beneath.
    lines_of(told)
    return told


def without_kind(family, kind):
    """The pairs of the other kinds."""
    return tuple([pair for pair in family if pair[0] != kind])

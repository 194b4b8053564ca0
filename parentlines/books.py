"""Books: which kinds have which names, with which entries."""

from parentlines.entries import is_entry
from parentlines.errors import NoEntry, NoName
from parentlines.families import check_kind, is_kind
from parentlines.words import are_rising, check_name, is_name


def is_book(family, thing):
    """Whether a thing is a book of the family."""
    if not isinstance(thing, tuple) or not all([is_triple(family, triple) for triple in thing]):
        return False
    return are_rising([(kind, name) for kind, name, entry in thing])


def is_triple(family, thing):
    """Whether a thing is a triple of a kind of the family, a name and an entry."""
    if not isinstance(thing, tuple) or len(thing) != 3:
        return False
    return is_kind(family, thing[0]) and is_name(thing[1]) and is_entry(thing[2])


def name_given(family, book, kind, name, entry):
    """The book in which the kind has the name with this entry; refused with NoKind, NoName, NoEntry."""
    check_kind(family, kind)
    check_name(name)
    if not is_entry(entry):
        raise NoEntry("no entry")
    return tuple(sorted(without_name(book, kind, name) + ((kind, name, entry),)))


def name_taken(family, book, kind, name):
    """The book in which the kind has the name no more; refused with NoKind, NoName."""
    check_kind(family, kind)
    check_name(name)
    told = without_name(book, kind, name)
    if told == book:
        raise NoName(f"the kind {kind} has no such name: {name}")
    return told


def without_name(book, kind, name):
    """The triples of the book, but that of the kind and the name."""
    return tuple([triple for triple in book if triple[:2] != (kind, name)])

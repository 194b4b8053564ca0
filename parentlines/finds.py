"""What is found of a name along a kind's line."""

from parentlines.errors import NotAbove
from parentlines.families import line_of
from parentlines.words import check_name


def found_at(family, book, kind, name, behind=""):
    """The first kind of the line, behind that one if one is told, that has the name, with its entry; or None."""
    line = line_of(family, kind)
    check_name(name)
    check_behind(line, behind)
    return found_along(line, entries_by_place(book), name, behind)


def all_found(family, book, kind):
    """All names that are found at the kind, with the kinds where they are, sorted."""
    line = line_of(family, kind)
    entries = entries_by_place(book)
    names = sorted({name for other, name, entry in book if other in line})
    return [(name, found_along(line, entries, name, "")[0]) for name in names]


def check_behind(line, thing):
    """Refuses with NotAbove what is neither a kind of the line nor the text that stands for none."""
    if not isinstance(thing, str) or thing not in ("",) + line:
        raise NotAbove("no kind of the line")


def entries_by_place(book):
    """The entries of the book, by kind and name."""
    return {(kind, name): entry for kind, name, entry in book}


def found_along(line, entries, name, behind):
    """The first kind of the line, or of what stands behind a kind there, that has the name, and its entry; or None."""
    start = 0 if behind == "" else line.index(behind) + 1
    for kind in line[start:]:
        if (kind, name) in entries:
            return (kind, entries[(kind, name)])
    return None

"""What is found of a name along a kind's line."""

from parentlines.errors import NotAbove
from parentlines.families import check_kind, lines_of
from parentlines.words import check_name


def found_at(family, book, kind, name, behind=""):
    """The first kind of the line, behind that one if one is told, that has the name, with its entry; or None."""
    check_kind(family, kind)
    check_name(name)
    finds = finds_in(family, book)
    check_behind(finds.lines[kind], behind)
    return finds.look(kind, name, behind)


def all_found(family, book, kind):
    """All names that are found at the kind, with the kinds where they are, sorted."""
    check_kind(family, kind)
    finds = finds_in(family, book)
    line = finds.lines[kind]
    names = sorted({name for other, name, entry in book if other in line})
    return [(name, finds.look(kind, name, "")[0]) for name in names]


def finds_in(family, book):
    """Finds of a family and a book, with nothing kept."""
    return Finds(lines_of(family), entries_by_place(book))


def is_behind(line, thing):
    """Whether a thing is a kind of the line or the text that stands for none."""
    return isinstance(thing, str) and thing in ("",) + line


def check_behind(line, thing):
    """Refuses with NotAbove what is neither a kind of the line nor the text that stands for none."""
    if not is_behind(line, thing):
        raise NotAbove("no kind of the line")


def entries_by_place(book):
    """The entries of the book, by kind and name."""
    return {(kind, name): entry for kind, name, entry in book}


class Finds:
    """What is looked for along lines: what was found is kept, and the kinds that were come to are counted."""

    def __init__(self, lines, entries):
        self.lines = lines
        self.entries = entries
        self.hits = {}
        self.met = 0

    def look(self, kind, name, behind):
        """The first kind of the line, or of what stands behind a kind there, that has the name, and its entry."""
        place = (kind, name, behind)
        if place not in self.hits:
            self.hits[place] = self.walk(kind, name, behind)
        return self.hits[place]

    def walk(self, kind, name, behind):
        """What a walk along the line finds, or None."""
        line = self.lines[kind]
        start = 0 if behind == "" else line.index(behind) + 1
        for other in line[start:]:
            self.met += 1
            if (other, name) in self.entries:
                return (other, self.entries[(other, name)])
        return None

    def stand(self, lines, entries):
        """Gives it other lines and entries; what of the finds does not fit them is to be dropped by the caller."""
        self.lines = lines
        self.entries = entries

    def drop_kinds(self, kinds):
        """Drops what is kept for the kinds."""
        self.hits = {place: hit for place, hit in self.hits.items() if place[0] not in kinds}

    def drop_name(self, kinds, name):
        """Drops what is kept for the kinds of the name."""
        self.hits = {place: hit for place, hit in self.hits.items() if place[0] not in kinds or place[1] != name}

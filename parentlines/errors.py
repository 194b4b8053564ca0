"""The refusals of the program."""


class LineError(ValueError):
    """Any refusal."""


class NoName(LineError):
    """Something is no name, or a name is not there."""


class NoKind(LineError):
    """Something is no kind of the family."""


class NoParents(LineError):
    """Something is no tuple of at most four unlike kinds of the family."""


class Taken(LineError):
    """Something of that name is there already."""


class InUse(LineError):
    """A kind is let go that others need."""


class NoEntry(LineError):
    """Something is no entry."""


class NoThing(LineError):
    """Something is no thing of the world."""


class NoNumber(LineError):
    """Something is no whole number, or not one of those that fit."""


class NotAbove(LineError):
    """Something is no kind of the line that is looked along."""


class Shut(LineError):
    """A number is put, or a name dropped, where a shut entry stands."""


class NoText(LineError):
    """Something is no text of a world."""


class NoRow(LineError):
    """Something is no row that a desk takes."""


class Ring(LineError):
    """Rows that no order keeps, those of a kind (or of none), with a ring of wishes that shows it."""

    def __init__(self, kind, ring):
        LineError.__init__(self, f"no order keeps the rows, of kind {kind}: {ring}")
        self.kind = kind
        self.ring = ring


class Round(LineError):
    """A kind would be its own forebear, with a way that shows it."""

    def __init__(self, way):
        LineError.__init__(self, f"the new parents lead back to the kind: {way}")
        self.way = way


class Missing(LineError):
    """Nothing tells a number of a name."""

    def __init__(self, name):
        LineError.__init__(self, f"nothing is told of the name: {name}")
        self.name = name


class Endless(LineError):
    """An asking would have no end, with a round of names that shows it."""

    def __init__(self, names):
        LineError.__init__(self, f"the names come to one another without end: {names}")
        self.names = names

"""Things of all kinds, for what takes anything."""


class Prickly:
    """Fails when it is compared, measured, walked or asked for its hash."""

    def refuse(self, *others):
        raise RuntimeError("touched")

    __eq__ = __ne__ = __lt__ = __le__ = __gt__ = __ge__ = refuse
    __hash__ = __len__ = __iter__ = __bool__ = __getitem__ = __contains__ = refuse


def endless_list():
    """A list that holds itself."""
    box = []
    box.append(box)
    return box


def anything():
    """Things that are no names, no whole numbers, no rows of more than no names and no rings."""
    plain = [
        None, True, False, 0, 1, -1, 10 ** 30, "", " ", "A", "a b", "ab1", "abcdefghi", "\u00e9", "a\n",
        b"", b"a", [], ["a"], ["a", "b"], {}, {"a": "b"}, {"a"}, set(), frozenset("a"), range(2),
        len, str, object(), Prickly(), endless_list(), iter("ab"), ValueError("a"),
    ]
    held = [(thing,) for thing in plain]
    pairs = [("a", thing) for thing in plain] + [(thing, thing) for thing in plain]
    triples = [(thing, "a", "b") for thing in plain] + [(0, thing, "b") for thing in plain]
    triples += [(0, "a", thing) for thing in plain]
    return plain + held + pairs + triples

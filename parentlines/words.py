"""Names and whole numbers."""

from parentlines.errors import NoName


def is_whole(thing):
    """Whether a thing is a whole number: True and False are none."""
    return isinstance(thing, int) and not isinstance(thing, bool)


def is_name(thing):
    """Whether a thing is a name: a text of one to eight small letters."""
    if not isinstance(thing, str) or not 1 <= len(thing) <= 8:
        return False
    return all(["a" <= sign <= "z" for sign in thing])


def check_name(thing):
    """Refuses with NoName what is no name."""
    # What was handed in is left out of the words, since anything may stand there, also what no text can be made of.
    if not is_name(thing):
        raise NoName("no text of one to eight small letters")


def are_rising(names):
    """Whether a list of names, or of tuples of names, is sorted with no two alike."""
    return names == sorted(set(names))

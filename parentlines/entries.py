"""Entries: what a kind has under a name, and the steps by which some of them are reckoned."""

from parentlines.words import is_name, is_whole

MOST_STEPS = 4
MOST_TIMES = 9


def is_entry(thing):
    """Whether a thing is an entry."""
    if not begins_with_text(thing):
        return False
    if thing[0] == "plain":
        return len(thing) == 2 and is_whole(thing[1])
    if thing[0] == "ahead":
        return len(thing) == 3 and is_name(thing[1]) and is_whole(thing[2])
    return thing[0] in ("behind", "shut") and len(thing) == 2 and are_steps(thing[1])


def are_steps(thing):
    """Whether a thing is a tuple of at most four steps."""
    return isinstance(thing, tuple) and len(thing) <= MOST_STEPS and all([is_step(step) for step in thing])


def is_step(thing):
    """Whether a thing is a step."""
    if not begins_with_text(thing):
        return False
    if thing[0] == "onward":
        return len(thing) == 1
    if len(thing) != 2:
        return False
    if thing[0] == "ask":
        return is_name(thing[1])
    if thing[0] == "times":
        return is_whole(thing[1]) and -MOST_TIMES <= thing[1] <= MOST_TIMES
    return thing[0] == "add" and is_whole(thing[1])


def begins_with_text(thing):
    """Whether a thing is a tuple with a text in its first place."""
    return isinstance(thing, tuple) and len(thing) > 0 and isinstance(thing[0], str)


def goes_first(entry):
    """Whether an entry tells its name also of a thing that has an own number of it."""
    return entry[0] in ("ahead", "shut")


def steps_of(entry):
    """The steps that lead from 0 to what an entry tells that is reckoned."""
    if entry[0] == "ahead":
        return (("ask", entry[1]), ("add", entry[2]))
    return entry[1]

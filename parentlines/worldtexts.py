"""Texts of worlds, and the words of entries and numbers in them."""

from parentlines.entries import is_entry
from parentlines.errors import NoText
from parentlines.worlds import is_world


def world_text(world):
    """The text of a world: a line for each kind, each name of a kind and each thing."""
    family, book, things = world
    rows = [["kind", kind] + list(parents) for kind, parents in family]
    rows += [["name", kind, name] + entry_words(entry) for kind, name, entry in book]
    rows += [["thing", thing, kind] + own_words(own) for thing, kind, own in things]
    return "".join([" ".join(row) + "\n" for row in rows])


def entry_words(entry):
    """The words of an entry."""
    if entry[0] in ("plain", "ahead"):
        return [str(part) for part in entry]
    return [entry[0]] + [str(part) for step in entry[1] for part in step]


def own_words(own):
    """The words of own numbers."""
    return [str(part) for pair in own for part in pair]


def read_world(text):
    """The world whose text this is; refused with NoText."""
    if not isinstance(text, str):
        raise NoText("no text")
    rows = [line.split(" ") for line in text.split("\n")]
    family = tuple([read_kind(row[1:]) for row in rows if row[0] == "kind"])
    book = tuple([read_name(row[1:]) for row in rows if row[0] == "name"])
    things = tuple([read_thing(row[1:]) for row in rows if row[0] == "thing"])
    world = (family, book, things)
    # Whatever was passed over, or is written otherwise, shows when the world is written again.
    if not is_world(world) or world_text(world) != text:
        raise NoText("no text of a world")
    return world


def read_kind(words):
    """The pair of a kind and its parents; where words are too few, no pair."""
    return tuple(words[:1]) + (tuple(words[1:]),)


def read_name(words):
    """The triple of a kind, a name and an entry; where the words don't fit, no such triple."""
    return tuple(words[:2]) + (read_entry(words[2:]),)


def read_thing(words):
    """The triple of a thing, its kind and its own numbers; where the words don't fit, no such triple."""
    numbers = [read_number(word) for word in words[3::2]]
    return tuple(words[:2]) + (tuple(zip(words[2::2], numbers)),)


def read_entry(words):
    """The entry of these words, or None."""
    entry = None
    if words[:1] == ["plain"]:
        entry = ("plain",) + tuple([read_number(word) for word in words[1:]])
    elif words[:1] == ["ahead"]:
        entry = tuple(words[:2]) + tuple([read_number(word) for word in words[2:]])
    elif words:
        entry = (words[0], read_steps(words[1:]))
    return entry if is_entry(entry) else None


def read_steps(words):
    """The steps of these words; where they don't fit, something among them that is no step."""
    steps = []
    rest = words
    while rest:
        many = 1 if rest[0] == "onward" else 2
        steps.append(read_step(rest[:many]))
        rest = rest[many:]
    return tuple(steps)


def read_step(words):
    """The step of these words; where they don't fit, no step."""
    if words[0] in ("add", "times"):
        return (words[0],) + tuple([read_number(word) for word in words[1:]])
    return tuple(words)


def read_number(word):
    """The whole number that is written so, or None."""
    try:
        number = int(word)
    except ValueError:
        return None
    return number if str(number) == word else None

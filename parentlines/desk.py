"""The desk: it takes rows of words, does what they say at its house, and answers with a text."""

from parentlines.errors import (
    Endless, InUse, Missing, NoKind, NoName, NoParents, NoRow, NotAbove, NoThing, Ring, Round, Shut, Taken)
from parentlines.families import way_of
from parentlines.house import House
from parentlines.words import is_name
from parentlines.worldtexts import entry_words, read_entry, read_number, world_text

MOST_FIGURES = 18

# How many names stand behind a row's first word; what may follow them, rest_fits tells.
NAMES_BEHIND = {
    "make": 1, "change": 1, "let": 1, "give": 2, "take": 2, "begin": 2, "end": 1, "turn": 2, "put": 2, "drop": 2,
    "ask": 2, "line": 1, "way": 2, "found": 2, "counts": 0, "show": 0, "new": 0}


def words_of(text):
    """The words of a row; refused with NoRow."""
    if not isinstance(text, str):
        raise NoRow("no text")
    words = text.split(" ")
    if not are_row(words):
        raise NoRow("no row that a desk takes")
    return words


def are_row(words):
    """Whether words make a row."""
    # In a row only a number may be so long that this bound tells; what else is so long is no name either.
    if words[0] not in NAMES_BEHIND or any([len(word.lstrip("-")) > MOST_FIGURES for word in words]):
        return False
    many = NAMES_BEHIND[words[0]]
    names = words[1:many + 1]
    return len(names) == many and are_names(names) and rest_fits(words[0], words[many + 1:])


def rest_fits(first, rest):
    """Whether words may follow the names of a row with this first word."""
    if first in ("make", "change"):
        return are_names(rest)
    if first == "ask":
        return len(rest) <= 1 and are_names(rest)
    if first == "give":
        return read_entry(rest) is not None
    if first == "put":
        return len(rest) == 1 and read_number(rest[0]) is not None
    return rest == []


def are_names(words):
    """Whether all words are names."""
    return all([is_name(word) for word in words])


def make_kind(home, words):
    """Makes a kind."""
    home.make(words[0], tuple(words[1:]))


def change_kind(home, words):
    """Gives a kind other parents."""
    home.change(words[0], tuple(words[1:]))


def let_kind_go(home, words):
    """Lets a kind go."""
    home.let_go(words[0])


def give_name(home, words):
    """Gives a kind a name with an entry."""
    home.give(words[0], words[1], read_entry(words[2:]))


def take_name(home, words):
    """Takes a name from a kind."""
    home.take(words[0], words[1])


def begin_thing(home, words):
    """Begins a thing."""
    home.begin(words[0], words[1])


def end_thing(home, words):
    """Ends a thing."""
    home.end(words[0])


def turn_thing(home, words):
    """Gives a thing another kind."""
    home.turn(words[0], words[1])


def put_number(home, words):
    """Puts a number under a name of a thing."""
    home.put(words[0], words[1], read_number(words[2]))


def drop_number(home, words):
    """Drops an own number of a thing."""
    home.drop(words[0], words[1])


def tell_number(home, words):
    """What a thing tells, perhaps behind a kind."""
    behind = words[2] if len(words) == 3 else ""
    return str(home.ask(words[0], words[1], behind))


def tell_line(home, words):
    """The kinds of a line."""
    return " ".join(home.line(words[0]))


def tell_way(home, words):
    """The kinds of a way."""
    way = way_of(home.world()[0], words[0], words[1])
    return "-" if way is None else " ".join(way)


def tell_found(home, words):
    """The kind at which a name is found, and the entry."""
    hit = home.found(words[0], words[1])
    return "-" if hit is None else " ".join([hit[0]] + entry_words(hit[1]))


def tell_counts(home, words):
    """How much was walked and reckoned."""
    return f"{home.walked()} {home.reckoned()}"


def tell_world(home, words):
    """The text of the world."""
    return world_text(home.world())


# What is done at the house for a row with this first word, with the words behind it.
DEEDS = {
    "make": make_kind, "change": change_kind, "let": let_kind_go, "give": give_name, "take": take_name,
    "begin": begin_thing, "end": end_thing, "turn": turn_thing, "put": put_number, "drop": drop_number,
    "ask": tell_number, "line": tell_line, "way": tell_way, "found": tell_found, "counts": tell_counts,
    "show": tell_world}


def answer(home, words):
    """What a row, but that for a new house, is answered: a text, or the name of a refusal's class."""
    deed = DEEDS[words[0]]
    try:
        told = deed(home, words[1:])
        return "done" if told is None else told
    except NoName:
        return "NoName"
    except NoKind:
        return "NoKind"
    except NoParents:
        return "NoParents"
    except Taken:
        return "Taken"
    except InUse:
        return "InUse"
    except NoThing:
        return "NoThing"
    except NotAbove:
        return "NotAbove"
    except Shut:
        return "Shut"
    except Ring:
        return "Ring"
    except Round:
        return "Round"
    except Missing:
        return "Missing"
    except Endless:
        return "Endless"


class Desk:
    """Has a house, and takes rows for it."""

    def __init__(self):
        self.home = House()

    def take(self, text):
        """What a row is answered; refused with NoRow."""
        words = words_of(text)
        if words == ["new"]:
            self.home = House()
            return "done"
        return answer(self.home, words)

    def house(self):
        """The desk's house itself."""
        return self.home

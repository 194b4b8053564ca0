"""Worlds: a family, a book of it, and things of its kinds with numbers of their own."""

from parentlines.books import is_book
from parentlines.errors import NoThing, Taken
from parentlines.families import check_kind, is_family, is_kind
from parentlines.words import are_rising, check_name, is_name, is_whole


def is_world(thing):
    """Whether a thing is a world."""
    if not isinstance(thing, tuple) or len(thing) != 3:
        return False
    family, book, things = thing
    return is_family(family) and is_book(family, book) and are_things(family, things)


def are_things(family, thing):
    """Whether a thing is a sorted tuple of things of the family's kinds, no two of one name."""
    if not isinstance(thing, tuple) or not all([is_thing_of(family, triple) for triple in thing]):
        return False
    return are_rising([triple[0] for triple in thing])


def is_thing_of(family, thing):
    """Whether a thing is a triple of a name, a kind of the family and own numbers."""
    if not isinstance(thing, tuple) or len(thing) != 3:
        return False
    return is_name(thing[0]) and is_kind(family, thing[1]) and are_own(thing[2])


def are_own(thing):
    """Whether a thing is a sorted tuple of names with numbers, no two of one name."""
    if not isinstance(thing, tuple) or not all([is_own(pair) for pair in thing]):
        return False
    return are_rising([pair[0] for pair in thing])


def is_own(thing):
    """Whether a thing is a pair of a name and a whole number."""
    return isinstance(thing, tuple) and len(thing) == 2 and is_name(thing[0]) and is_whole(thing[1])


def is_thing(world, thing):
    """Whether a thing is the name of one of the world's things."""
    return is_name(thing) and thing in [triple[0] for triple in world[2]]


def check_thing(world, thing):
    """Refuses with NoThing what is no thing of the world."""
    if not is_thing(world, thing):
        raise NoThing("no thing of the world")


def kind_and_own(world, thing):
    """The kind of a thing and its own numbers, a tuple of pairs; refused with NoThing."""
    check_thing(world, thing)
    return [triple[1:] for triple in world[2] if triple[0] == thing][0]


def kind_of(world, thing):
    """The kind of a thing; refused with NoThing."""
    return kind_and_own(world, thing)[0]


def thing_begun(world, thing, kind):
    """The world with a thing more; refused with NoName, Taken, NoKind."""
    check_name(thing)
    if is_thing(world, thing):
        raise Taken(f"there is a thing of this name: {thing}")
    check_kind(world[0], kind)
    return with_thing(world, thing, kind, ())


def thing_ended(world, thing):
    """The world without a thing; refused with NoThing."""
    check_thing(world, thing)
    return (world[0], world[1], without_thing(world, thing))


def thing_turned(world, thing, kind):
    """The world in which a thing has this kind, and its own numbers still; refused with NoThing, NoKind."""
    own = kind_and_own(world, thing)[1]
    check_kind(world[0], kind)
    return with_thing(world, thing, kind, own)


def with_thing(world, thing, kind, own):
    """The world in which a thing, there or not, has this kind and these own numbers."""
    things = without_thing(world, thing) + ((thing, kind, own),)
    return (world[0], world[1], tuple(sorted(things)))


def without_thing(world, thing):
    """The triples of the other things."""
    return tuple([triple for triple in world[2] if triple[0] != thing])

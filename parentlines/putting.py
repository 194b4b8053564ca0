"""Numbers that are put under a name of a thing, and names that are dropped."""

from parentlines.entries import goes_first
from parentlines.errors import Endless, Missing, NoNumber, Shut
from parentlines.finds import finds_in
from parentlines.words import check_name, is_whole
from parentlines.worlds import check_thing, kind_and_own, kind_of, with_thing


def number_put(world, thing, name, number):
    """The world in which the thing, asked the name, tells the number.

    Refused with NoThing, NoName, NoNumber, Shut, Endless.
    """
    check_put(world, thing, name, number)
    last, less = end_of_way(finds_in(world[0], world[1]), kind_of(world, thing), name)
    return with_own(world, thing, last, number - less)


def number_dropped(world, thing, name):
    """The world in which the thing has no own number where the name's way ends.

    Refused with NoThing, NoName, Shut, Endless, Missing.
    """
    check_dropped(world, thing, name)
    last, less = end_of_way(finds_in(world[0], world[1]), kind_of(world, thing), name)
    return without_own(world, thing, last)


def check_put(world, thing, name, number):
    """Refuses with NoThing, NoName, NoNumber what can't be put, whatever its way."""
    check_dropped(world, thing, name)
    if not is_whole(number):
        raise NoNumber("no whole number")


def check_dropped(world, thing, name):
    """Refuses with NoThing, NoName what can't be dropped, whatever its way."""
    check_thing(world, thing)
    check_name(name)


def end_of_way(finds, kind, name):
    """The last name on the way of a name, and how much less a number is there; refused with Shut, Endless."""
    passed = []
    less = 0
    while name not in passed:
        passed.append(name)
        hit = finds.look(kind, name, "")
        if hit is None or not goes_first(hit[1]):
            return (name, less)
        if hit[1][0] == "shut":
            raise Shut(f"a shut entry tells the name: {name}")
        less += hit[1][2]
        name = hit[1][1]
    raise Endless(tuple(passed[passed.index(name):]))


def with_own(world, thing, name, number):
    """The world in which the thing has this own number of the name."""
    kind, own = kind_and_own(world, thing)
    numbers = dict(own)
    numbers[name] = number
    return with_thing(world, thing, kind, tuple(sorted(numbers.items())))


def without_own(world, thing, name):
    """The world in which the thing has no own number of the name; refused with Missing where it has none."""
    kind, own = kind_and_own(world, thing)
    if name not in dict(own):
        raise Missing(name)
    return with_thing(world, thing, kind, tuple([pair for pair in own if pair[0] != name]))

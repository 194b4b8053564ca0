"""Numbers that are put under a name of a thing, and names that are dropped."""

from parentlines.entries import goes_first
from parentlines.errors import Endless, Missing, NoNumber, Shut
from parentlines.families import line_of
from parentlines.finds import entries_by_place, found_along
from parentlines.words import check_name, is_whole
from parentlines.worlds import kind_and_own, with_thing


def number_put(world, thing, name, number):
    """The world in which the thing, asked the name, tells the number.

    Refused with NoThing, NoName, NoNumber, Shut, Endless.
    """
    kind, own = kind_and_own(world, thing)
    check_name(name)
    if not is_whole(number):
        raise NoNumber("no whole number")
    last, less = end_of_way(world, kind, name)
    numbers = dict(own)
    numbers[last] = number - less
    return with_thing(world, thing, kind, tuple(sorted(numbers.items())))


def number_dropped(world, thing, name):
    """The world in which the thing has no own number where the name's way ends.

    Refused with NoThing, NoName, Shut, Endless, Missing.
    """
    kind, own = kind_and_own(world, thing)
    check_name(name)
    last, less = end_of_way(world, kind, name)
    if last not in dict(own):
        raise Missing(last)
    return with_thing(world, thing, kind, tuple([pair for pair in own if pair[0] != last]))


def end_of_way(world, kind, name):
    """The last name on the way of a name, and how much less a number is there; refused with Shut, Endless."""
    line = line_of(world[0], kind)
    entries = entries_by_place(world[1])
    passed = []
    less = 0
    while name not in passed:
        passed.append(name)
        hit = found_along(line, entries, name, "")
        if hit is None or not goes_first(hit[1]):
            return (name, less)
        if hit[1][0] == "shut":
            raise Shut(f"a shut entry tells the name: {name}")
        less += hit[1][2]
        name = hit[1][1]
    raise Endless(tuple(passed[passed.index(name):]))

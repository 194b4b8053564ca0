import itertools
import random

from helper import Refusing, anything, places, with_lists, world_by_chance
from parentlines.errors import NoKind, NoName, NoThing, Taken
from parentlines.worlds import is_world, thing_begun, thing_ended, thing_turned

FAMILY = (("b", ("o",)), ("c", ("o",)), ("d", ("b", "c")), ("o", ()))
BOOK = (("b", "n", ("plain", 1)), ("o", "n", ("behind", (("onward",), ("add", 2)))))
THINGS = (("p", "d", ()), ("q", "b", (("m", -4), ("n", 10 ** 17))), ("r", "b", (("n", 0),)))
WORLD = (FAMILY, BOOK, THINGS)
EMPTY = ((), (), ())


def has_number(thing):
    """Whether a thing is a whole number or has one at its end: so it may fit where a number or a pair stands."""
    last = thing[-1] if type(thing) is tuple else thing
    return type(last) is int


class IsWorld(Refusing):
    def check(self, thing, told):
        self.assertIs(is_world(thing), told, thing)

    def check_things(self, things, told):
        self.check((FAMILY, BOOK, things), told)

    def test_worlds(self):
        for world in (EMPTY, WORLD, (FAMILY, (), ()), (FAMILY, BOOK, ()), (FAMILY, (), THINGS)):
            self.check(world, True)
        chance = random.Random(31)
        for turn in range(50):
            self.check(world_by_chance(chance), True)

    def test_a_thing_may_be_called_like_a_kind_and_a_name(self):
        self.check_things((("b", "b", (("b", 1),)),), True)

    def test_own_numbers_of_names_that_no_kind_has(self):
        self.check_things((("p", "o", (("zz", 3),)),), True)

    def test_parts_that_are_none(self):
        self.check((FAMILY[::-1], BOOK, THINGS), False)
        self.check((FAMILY, BOOK[::-1], THINGS), False)
        self.check((FAMILY[:3], (), ()), False)
        self.check((FAMILY[3:], BOOK, ()), False)
        self.check((FAMILY[3:], (), THINGS), False)
        self.check(((), BOOK, ()), False)
        self.check(((), (), THINGS), False)

    def test_more_and_fewer_parts(self):
        self.check((), False)
        self.check((FAMILY, BOOK), False)
        self.check(WORLD + ((),), False)
        self.check((FAMILY,), False)

    def test_things_that_are_not_sorted_or_alike(self):
        for order in itertools.permutations(THINGS):
            self.check_things(order, order == THINGS)
        self.check_things((("p", "d", ()), ("p", "d", ())), False)
        self.check_things((("p", "b", ()), ("p", "d", (("n", 1),))), False)

    def test_triples_of_other_forms(self):
        for triple in ((), ("p",), ("p", "d"), ("p", "d", (), ()), ("P", "d", ()), ("", "d", ()), ("p", "z", ()),
                       ("p", "D", ()), ("p", ("d",), ()), ("p", "d", None), ("p", "d", "n"), "pdo"):
            self.check_things((triple,), False)

    def test_own_numbers_of_other_forms(self):
        for own in ((("n",),), (("n", 1, 1),), ("n", 1), ((),), (("N", 1),), (("", 1),), ((1, 1),), (("n", True),),
                    (("n", False),), (("n", "1"),), (("n", None),), (("n", 1), ("n", 1)), (("n", 1), ("n", 2)),
                    (("n", 1), ("m", 1))):
            self.check_things((("p", "d", own),), False)

    def test_lists_in_the_place_of_tuples(self):
        for world in (WORLD, EMPTY):
            for thing in with_lists(world):
                self.check(thing, False)

    def test_of_anything(self):
        for thing in anything():
            self.check(thing, False)
            for other in places(WORLD, thing):
                if has_number(thing):
                    self.assertIn(is_world(other), (True, False))
                else:
                    self.check(other, False)


class Begun(Refusing):
    def test_a_thing_more(self):
        self.assertEqual(thing_begun((FAMILY, BOOK, ()), "p", "d"), (FAMILY, BOOK, (("p", "d", ()),)))
        self.assertEqual(thing_begun(WORLD, "a", "o"), (FAMILY, BOOK, (("a", "o", ()),) + THINGS))
        self.assertEqual(thing_begun(WORLD, "pp", "c"), (FAMILY, BOOK, THINGS[:1] + (("pp", "c", ()),) + THINGS[1:]))
        self.assertEqual(thing_begun(WORLD, "z", "c"), (FAMILY, BOOK, THINGS + (("z", "c", ()),)))

    def test_refused(self):
        for thing in anything() + ["P", "abcdefghi", ("p",)]:
            self.refused(NoName, thing_begun, WORLD, thing, "d")
        for thing in "pqr":
            self.refused(Taken, thing_begun, WORLD, thing, "d")
        for kind in anything() + ["z", "p", ("d",)]:
            self.refused(NoKind, thing_begun, WORLD, "z", kind)

    def test_two_due_at_once(self):
        self.refused(NoName, thing_begun, WORLD, "P", "z")
        self.refused(Taken, thing_begun, WORLD, "p", "z")
        for thing in anything():
            self.refused(NoName, thing_begun, WORLD, thing, thing)
            self.refused(Taken, thing_begun, WORLD, "p", thing)


class Ended(Refusing):
    def test_a_thing_less(self):
        for at, thing in enumerate("pqr"):
            self.assertEqual(thing_ended(WORLD, thing), (FAMILY, BOOK, THINGS[:at] + THINGS[at + 1:]))

    def test_begun_and_ended(self):
        self.assertEqual(thing_ended(thing_begun(WORLD, "a", "o"), "a"), WORLD)

    def test_refused(self):
        for thing in anything() + ["a", "z", "b", ("p",), THINGS[0]]:
            self.refused(NoThing, thing_ended, WORLD, thing)
            self.refused(NoThing, thing_ended, EMPTY, thing)


class Turned(Refusing):
    def test_another_kind(self):
        told = thing_turned(WORLD, "q", "o")
        self.assertEqual(told, (FAMILY, BOOK, (THINGS[0], ("q", "o", THINGS[1][2]), THINGS[2])))
        self.assertEqual(thing_turned(told, "q", "b"), WORLD)

    def test_the_same_kind(self):
        for thing, kind, own in THINGS:
            self.assertEqual(thing_turned(WORLD, thing, kind), WORLD)

    def test_refused(self):
        for thing in anything() + ["a", "b", ("p",)]:
            self.refused(NoThing, thing_turned, WORLD, thing, "b")
        for kind in anything() + ["z", "p", ("d",)]:
            self.refused(NoKind, thing_turned, WORLD, "p", kind)

    def test_two_due_at_once(self):
        self.refused(NoThing, thing_turned, WORLD, "a", "z")
        for thing in anything():
            self.refused(NoThing, thing_turned, WORLD, thing, thing)


class WhatIsTold(Refusing):
    def test_worlds_are_told(self):
        chance = random.Random(32)
        for turn in range(50):
            world = world_by_chance(chance)
            kind = chance.choice(world[0])[0]
            thing = chance.choice(world[2])[0]
            for told in (thing_begun(world, "new", kind), thing_ended(world, thing), thing_turned(world, thing, kind)):
                self.assertIs(is_world(told), True)

    def test_what_is_handed_in_stays(self):
        world = (tuple(FAMILY), tuple(BOOK), tuple(THINGS))
        thing_begun(world, "a", "o")
        thing_ended(world, "p")
        thing_turned(world, "p", "b")
        self.refused(Taken, thing_begun, world, "p", "o")
        self.assertEqual(world, WORLD)

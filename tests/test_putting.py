import random

from helper import ByTheWords, Refusing, anything, askings_of, book_of, world_by_chance
from parentlines.asking import number_asked
from parentlines.errors import Endless, Missing, NoName, NoNumber, NoThing, Shut
from parentlines.putting import number_dropped, number_put
from parentlines.worlds import is_world, thing_turned

FAMILY = (("b", ("o",)), ("c", ("o",)), ("d", ("b", "c")), ("o", ()), ("x", ()))


def world_of(entries, own=(), kind="d"):
    return (FAMILY, book_of(entries), (("s", "x", (("n", 1),)), ("t", kind, tuple(sorted(dict(own).items())))))


class Putting(Refusing):
    def check_put(self, entries, own, name, number, told):
        world = world_of(entries, own)
        put = number_put(world, "t", name, number)
        self.assertEqual(put, world_of(entries, told))
        self.assertIs(is_world(put), True)
        self.assertEqual(number_asked(put, "t", name), number)
        self.assertEqual(world, world_of(entries, own))

    def check_dropped(self, entries, own, name, told):
        self.assertEqual(number_dropped(world_of(entries, own), "t", name), world_of(entries, told))


class Put(Putting):
    def test_straight(self):
        self.check_put({}, {}, "n", 5, {"n": 5})
        self.check_put({}, {"a": 1, "z": 2}, "n", -5, {"a": 1, "n": -5, "z": 2})
        self.check_put({}, {"n": 1}, "n", 0, {"n": 0})

    def test_over_plain_and_behind(self):
        self.check_put({"dn": ("plain", 1)}, {}, "n", 5, {"n": 5})
        self.check_put({"on": ("behind", (("ask", "n"),))}, {}, "n", 5, {"n": 5})

    def test_along_one_ahead(self):
        self.check_put({"dn": ("ahead", "m", 3)}, {}, "n", 10, {"m": 7})
        self.check_put({"on": ("ahead", "m", -3)}, {"m": 1, "n": 2}, "n", 10, {"m": 13, "n": 2})

    def test_along_several(self):
        entries = {"dn": ("ahead", "m", 3), "bm": ("ahead", "k", 4), "ok": ("behind", (("add", 1),))}
        self.check_put(entries, {}, "n", 10, {"k": 3})
        self.check_put(entries, {"k": 1}, "m", 10, {"k": 6})
        self.check_put(entries, {"n": 1}, "k", 10, {"k": 10, "n": 1})

    def test_what_is_found_first_leads(self):
        self.check_put({"bn": ("plain", 1), "on": ("ahead", "m", 3)}, {}, "n", 10, {"n": 10})
        self.check_put({"bn": ("ahead", "m", 3), "on": ("shut", ())}, {}, "n", 10, {"m": 7})

    def test_shut(self):
        world = world_of({"dn": ("shut", (("add", 1),)), "dm": ("ahead", "n", 1), "bk": ("ahead", "m", 1)}, {"n": 1})
        for name in ("n", "m", "k"):
            self.refused(Shut, number_put, world, "t", name, 5)
            self.refused(Shut, number_dropped, world, "t", name)

    def test_endless(self):
        world = world_of({"dn": ("ahead", "n", 1)}, {"n": 1})
        self.assertEqual(self.refused(Endless, number_put, world, "t", "n", 5).names, ("n",))
        entries = {"da": ("ahead", "b", 1), "db": ("ahead", "c", 1), "oc": ("ahead", "d", 1), "dd": ("ahead", "b", 1)}
        world = world_of(entries)
        for name in "abcd":
            for refusal in (
                    self.refused(Endless, number_put, world, "t", name, 5),
                    self.refused(Endless, number_dropped, world, "t", name)):
                self.assertTrue(ByTheWords(world, "t").is_round(refusal.names))
                self.assertEqual(sorted(refusal.names), ["b", "c", "d"])

    def test_the_way_is_that_of_the_thing_s_kind(self):
        entries = {"dn": ("ahead", "m", 3)}
        world = world_of(entries, kind="b")
        self.assertEqual(number_put(world, "t", "n", 5), world_of(entries, {"n": 5}, "b"))

    def test_other_things_stay(self):
        world = world_of({}, {"n": 3})
        self.assertEqual(number_put(world, "s", "n", 5)[2], (("s", "x", (("n", 5),)), ("t", "d", (("n", 3),))))

    def test_numbers_of_many_figures(self):
        self.check_put({"dn": ("ahead", "m", -10 ** 18 + 1)}, {}, "n", 10 ** 18 - 1, {"m": 2 * (10 ** 18 - 1)})

    def test_a_hidden_number_stays_and_is_told_again(self):
        world = number_put(world_of({"dn": ("ahead", "m", 3)}, {"n": 1}), "t", "n", 10)
        self.assertEqual(number_asked(world, "t", "n"), 10)
        self.assertEqual(number_asked(thing_turned(world, "t", "b"), "t", "n"), 1)


class Dropped(Putting):
    def test_straight(self):
        self.check_dropped({}, {"a": 1, "n": 2, "z": 3}, "n", {"a": 1, "z": 3})
        self.check_dropped({"dn": ("plain", 1)}, {"n": 2}, "n", {})
        self.check_dropped({"dn": ("behind", ())}, {"n": 2}, "n", {})

    def test_along_ahead(self):
        entries = {"dn": ("ahead", "m", 3), "bm": ("ahead", "k", 4)}
        self.check_dropped(entries, {"k": 1, "m": 2, "n": 3}, "n", {"m": 2, "n": 3})

    def test_put_and_dropped(self):
        entries = {"dn": ("ahead", "m", 3)}
        world = world_of(entries, {"n": 1})
        self.assertEqual(number_dropped(number_put(world, "t", "n", 5), "t", "n"), world)

    def test_missing(self):
        entries = {"dn": ("ahead", "m", 3), "bm": ("ahead", "k", 4), "dz": ("plain", 1), "dy": ("behind", ())}
        world = world_of(entries, {"m": 1, "n": 2})
        for name, last in (("n", "k"), ("m", "k"), ("k", "k"), ("a", "a"), ("z", "z"), ("y", "y")):
            self.assertEqual(self.refused(Missing, number_dropped, world, "t", name).name, last)

    def test_other_things_stay(self):
        world = world_of({}, {"n": 3})
        self.assertEqual(number_dropped(world, "t", "n")[2], (("s", "x", (("n", 1),)), ("t", "d", ())))


class Refusals(Putting):
    world = world_of({"dn": ("plain", 1), "dm": ("shut", ()), "dk": ("ahead", "k", 1)}, {"n": 2})

    def test_no_thing(self):
        for thing in anything() + ["d", "n", "tt", ("t",)]:
            self.refused(NoThing, number_put, self.world, thing, "n", 1)
            self.refused(NoThing, number_dropped, self.world, thing, "n")

    def test_no_name(self):
        for name in anything() + ["N", "abcdefghi"]:
            self.refused(NoName, number_put, self.world, "t", name, 1)
            self.refused(NoName, number_dropped, self.world, "t", name)

    def test_no_number(self):
        for number in [thing for thing in anything() if type(thing) is not int] + [True, False, "1", None, [1]]:
            self.refused(NoNumber, number_put, self.world, "t", "n", number)

    def test_two_due_at_once(self):
        self.refused(NoThing, number_put, self.world, "z", "N", True)
        self.refused(NoThing, number_put, self.world, "z", "m", 1)
        self.refused(NoThing, number_dropped, self.world, "z", "N")
        self.refused(NoThing, number_dropped, self.world, "z", "m")
        self.refused(NoName, number_put, self.world, "t", "N", True)
        for name in "mk":
            self.refused(NoNumber, number_put, self.world, "t", name, True)
        self.refused(Shut, number_dropped, self.world, "t", "m")
        self.refused(Endless, number_dropped, self.world, "t", "k")
        for thing in anything():
            self.refused(NoThing, number_put, self.world, thing, thing, thing)
            self.refused(NoName, number_put, self.world, "t", thing, thing)
            self.refused(NoThing, number_dropped, self.world, thing, thing)


class ByChance(Putting):
    def told(self, world):
        """All that the things of the world tell; of refusals the class, and the name that is missing."""
        answers = {}
        for thing, name, behind in askings_of(world):
            try:
                answers[(thing, name, behind)] = number_asked(world, thing, name, behind)
            except Missing as refusal:
                answers[(thing, name, behind)] = ("missing", refusal.name)
            except Endless:
                answers[(thing, name, behind)] = "endless"
        return answers

    def test_what_is_put_is_told_and_changes_nothing_put_again(self):
        chance = random.Random(51)
        seen = []
        for turn in range(150):
            world = world_by_chance(chance)
            kept, told = repr(world), self.told(world)
            for thing, kind, own in world[2]:
                for name in "abcdef":
                    number = told[(thing, name, "")]
                    try:
                        put = number_put(world, thing, name, 77)
                    except (Shut, Endless) as refusal:
                        seen.append(type(refusal))
                        if type(refusal) is Endless:
                            self.assertTrue(ByTheWords(world, thing).is_round(refusal.names))
                        continue
                    self.assertIs(is_world(put), True)
                    self.assertEqual(number_asked(put, thing, name), 77)
                    if type(number) is int:
                        self.assertEqual(self.told(number_put(world, thing, name, number)), told)
                        self.assertEqual(self.told(number_put(put, thing, name, number)), told)
                        seen.append("again")
                    # Dropped where it was put, no own number is left there.
                    self.assertEqual(number_dropped(put, thing, name)[:2], world[:2])
                    self.refused(Missing, number_dropped, number_dropped(put, thing, name), thing, name)
            self.assertEqual(repr(world), kept)
        for told in (Shut, Endless, "again"):
            self.assertGreater(seen.count(told), 10)

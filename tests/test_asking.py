import random

from helper import ByTheWords, Refusing, anything, askings_of, book_of, chain_world, world_by_chance
from parentlines.asking import number_asked
from parentlines.errors import Endless, LineError, Missing, NoName, NotAbove, NoThing

FAMILY = (("b", ("o",)), ("c", ("o",)), ("d", ("b", "c")), ("o", ()), ("x", ()))
ONWARD = ("onward",)


def world_of(entries, own=(), kind="d"):
    """A world with one thing, t; the line of its kind is d, b, c, o, if no other kind is told."""
    return (FAMILY, book_of(entries), (("t", kind, tuple(sorted(dict(own).items()))),))


class Asking(Refusing):
    def asked_in_vain(self, error, world, *handed):
        return self.refused(error, number_asked, world, *handed)

    def check(self, told, entries, name, own=(), behind=""):
        world = world_of(entries, own)
        number = number_asked(world, "t", name, behind)
        self.assertIs(type(number), int)
        self.assertEqual(number, told)
        self.assertEqual(number_asked(world, "t", name, behind), told)

    def check_missing(self, missing, entries, name, own=(), behind=""):
        refusal = self.asked_in_vain(Missing, world_of(entries, own), "t", name, behind)
        self.assertEqual(refusal.name, missing)

    def check_endless(self, entries, name, own=(), behind=""):
        world = world_of(entries, own)
        names = self.asked_in_vain(Endless, world, "t", name, behind).names
        self.assertTrue(ByTheWords(world, "t").is_round(names), names)
        self.assertEqual(self.asked_in_vain(Endless, world, "t", name, behind).names, names)
        return names


class OwnNumbersAndEntries(Asking):
    def test_an_own_number(self):
        self.check(7, {}, "n", {"n": 7})
        self.check(-7, {}, "n", {"m": 3, "n": -7, "o": 4})
        self.check(0, {"bn": ("plain", 5)}, "n", {"n": 0})

    def test_an_own_number_goes_ahead_of_plain_and_behind(self):
        self.check(7, {"dn": ("plain", 5)}, "n", {"n": 7})
        self.check(7, {"dn": ("behind", (("add", 5),))}, "n", {"n": 7})
        self.check(7, {"dn": ("behind", (("ask", "n"),))}, "n", {"n": 7})

    def test_an_own_number_hidden_by_ahead_and_shut(self):
        self.check(5, {"dn": ("ahead", "m", 2), "om": ("plain", 3)}, "n", {"n": 7})
        self.check(5, {"on": ("shut", (("add", 5),))}, "n", {"n": 7})

    def test_what_is_found_first_hides_or_not(self):
        self.check(7, {"bn": ("plain", 1), "on": ("shut", ())}, "n", {"n": 7})
        self.check(0, {"bn": ("shut", ()), "on": ("plain", 1)}, "n", {"n": 7})

    def test_a_hidden_number_is_told_again(self):
        self.check(7, {"on": ("plain", 1)}, "n", {"n": 7})

    def test_plain(self):
        self.check(5, {"dn": ("plain", 5)}, "n")
        self.check(-5, {"on": ("plain", -5)}, "n")
        self.check(1, {"bn": ("plain", 1), "cn": ("plain", 2)}, "n")

    def test_ahead(self):
        self.check(12, {"dn": ("ahead", "m", 2)}, "n", {"m": 10})
        self.check(8, {"dn": ("ahead", "m", -2)}, "n", {"m": 10})
        self.check(9, {"on": ("ahead", "m", 2), "bm": ("ahead", "k", 3), "dk": ("plain", 4)}, "n")

    def test_behind_and_shut_without_steps(self):
        self.check(0, {"dn": ("behind", ())}, "n")
        self.check(0, {"dn": ("shut", ())}, "n")

    def test_steps_go_from_0_on_in_order(self):
        for word in ("behind", "shut"):
            self.check(11, {"dn": (word, (("add", 4), ("times", 3), ("add", -1)))}, "n")
            self.check(4, {"dn": (word, (("times", 3), ("add", 4)))}, "n")
            self.check(-36, {"dn": (word, (("add", 4), ("times", -9)))}, "n")
            self.check(0, {"dn": (word, (("add", 4), ("times", 0)))}, "n")

    def test_ask_adds(self):
        steps = (("add", 1), ("ask", "m"), ("times", 2), ("ask", "k"))
        self.check(29, {"dn": ("behind", steps), "om": ("plain", 10)}, "n", {"k": 7})
        self.check(20, {"dn": ("shut", (("ask", "m"), ("ask", "m")))}, "n", {"m": 10})

    def test_the_line_is_that_of_the_thing_s_kind(self):
        # The entry stands at o, but what it asks is found at d.
        self.check(3, {"on": ("behind", (("ask", "m"),)), "dm": ("plain", 3), "om": ("plain", 1)}, "n")
        # Behind b stands c in the line of d, though not in the line of b.
        entries = {"bn": ("behind", (ONWARD,)), "cn": ("plain", 2), "on": ("plain", 1)}
        self.check(2, entries, "n")
        self.assertEqual(number_asked(world_of(entries, kind="b"), "t", "n"), 1)


class Onward(Asking):
    def test_along_the_line(self):
        entries = {
            "dn": ("behind", (ONWARD, ("add", 1))), "bn": ("shut", (ONWARD, ("times", 2))),
            "cn": ("behind", (ONWARD, ONWARD)), "on": ("plain", 5)}
        self.check(21, entries, "n")

    def test_none_behind(self):
        self.check(0, {"dn": ("behind", (ONWARD,))}, "n")
        self.check(3, {"on": ("shut", (("add", 1), ONWARD, ("add", 2)))}, "n")
        self.check(2, {"dn": ("behind", (ONWARD, ("add", 1))), "on": ("behind", (("add", 1), ONWARD))}, "n")

    def test_whatever_entry_stands_behind(self):
        entries = {"dn": ("behind", (ONWARD,)), "bn": ("ahead", "m", 1), "cm": ("plain", 4)}
        self.check(5, entries, "n")
        entries["bn"] = ("shut", (("add", 8),))
        self.check(8, entries, "n")

    def test_own_numbers_are_aside(self):
        entries = {"dn": ("shut", (ONWARD,)), "bn": ("plain", 4)}
        self.check(4, entries, "n", {"n": 7})
        self.check(0, {"dn": ("shut", (ONWARD,))}, "n", {"n": 7})
        # But what an entry behind asks by its name is asked behind none.
        entries = {"dn": ("shut", (ONWARD,)), "bn": ("plain", 4), "bm": ("plain", 9)}
        entries["bn"] = ("behind", (("ask", "m"),))
        self.check(7, entries, "n", {"m": 7, "n": 1})

    def test_the_entry_s_own_name(self):
        entries = {"dn": ("ahead", "m", 1), "bm": ("behind", (ONWARD,)), "om": ("plain", 5), "on": ("plain", 9)}
        self.check(6, entries, "n")


class AskedBehind(Asking):
    entries = {"dn": ("plain", 1), "bn": ("shut", (ONWARD, ("add", 10))), "on": ("behind", (("ask", "m"),))}

    def test_behind_a_kind(self):
        self.check(1, self.entries, "n", {"m": 3})
        self.check(13, self.entries, "n", {"m": 3}, "d")
        self.check(3, self.entries, "n", {"m": 3}, "b")
        self.check(3, self.entries, "n", {"m": 3}, "c")

    def test_own_numbers_are_aside(self):
        self.check(7, self.entries, "n", {"m": 3, "n": 7})
        self.check(13, self.entries, "n", {"m": 3, "n": 7}, "d")
        self.check(3, self.entries, "n", {"m": 3, "n": 7}, "c")

    def test_nothing_behind(self):
        self.check_missing("n", self.entries, "n", {"m": 3, "n": 7}, "o")
        self.check_missing("m", {"dm": ("plain", 1)}, "m", {"m": 7}, "d")
        self.check_missing("m", {}, "m", {"m": 7}, "c")

    def test_left_out_it_is_none(self):
        world = world_of(self.entries)
        self.assertEqual(number_asked(world, "t", "n"), number_asked(world, "t", "n", ""))


class Refusals(Asking):
    world = world_of({"dn": ("plain", 1)}, {"m": 2})

    def test_no_thing(self):
        for thing in anything() + ["d", "n", "tt", ("t",)]:
            self.asked_in_vain(NoThing, self.world, thing, "n")
            self.asked_in_vain(NoThing, ((), (), ()), thing, "n")

    def test_no_name(self):
        for name in anything() + ["N", "abcdefghi"]:
            self.asked_in_vain(NoName, self.world, "t", name)
            self.asked_in_vain(NoName, self.world, "t", name, "d")

    def test_not_above(self):
        for behind in [thing for thing in anything() if type(thing) is not str] + [" ", "D", "x", "z", "t", "n", "db"]:
            self.asked_in_vain(NotAbove, self.world, "t", "n", behind)

    def test_two_due_at_once(self):
        self.asked_in_vain(NoThing, self.world, "s", "N", "z")
        self.asked_in_vain(NoThing, self.world, "s", "n", "z")
        self.asked_in_vain(NoName, self.world, "t", "N", "z")
        self.asked_in_vain(NotAbove, self.world, "t", "k", "z")
        for thing in anything():
            self.asked_in_vain(NoThing, self.world, thing, thing, thing)
            self.asked_in_vain(NoName, self.world, "t", thing, thing)

    def test_missing(self):
        self.check_missing("n", {}, "n")
        self.check_missing("n", {"xn": ("plain", 1), "dm": ("plain", 1)}, "n", {"m": 1})

    def test_missing_within(self):
        self.check_missing("m", {"dn": ("ahead", "m", 1)}, "n", {"n": 7})
        self.check_missing("k", {"dn": ("shut", (("ask", "m"),)), "dm": ("behind", (ONWARD, ("ask", "k")))}, "n")

    def test_the_first_refusal_is_that_of_the_whole(self):
        self.check_missing("k", {"dn": ("behind", (("ask", "k"), ("ask", "m"), ("ask", "n")))}, "n")
        self.check_missing("m", {"dn": ("behind", (("ask", "m"), ("ask", "k"), ("ask", "n")))}, "n")
        self.check_endless({"dn": ("behind", (("ask", "n"), ("ask", "m")))}, "n")
        entries = {"dn": ("behind", (ONWARD, ("ask", "k"))), "on": ("behind", (("ask", "m"),))}
        self.check_missing("m", entries, "n")

    def test_also_within_a_product_by_0(self):
        for word in ("behind", "shut"):
            self.check_missing("m", {"dn": (word, (("ask", "m"), ("times", 0)))}, "n")
            self.check_missing("m", {"dn": (word, (("times", 0), ("ask", "m"), ("times", 0)))}, "n")
            self.assertEqual(self.check_endless({"dn": (word, (("ask", "n"), ("times", 0)))}, "n"), ("n",))


class WithoutEnd(Asking):
    def test_a_round_of_one_name(self):
        self.assertEqual(self.check_endless({"dn": ("behind", (("ask", "n"),))}, "n"), ("n",))
        self.assertEqual(self.check_endless({"on": ("ahead", "n", 1)}, "n", {"n": 7}), ("n",))
        self.assertEqual(self.check_endless({"cn": ("shut", (("add", 1), ("ask", "n")))}, "n", {"n": 7}), ("n",))

    def test_rounds_of_several(self):
        entries = {"dn": ("ahead", "m", 1), "om": ("shut", (("ask", "k"),)), "bk": ("behind", (("ask", "n"),))}
        self.assertEqual(sorted(self.check_endless(entries, "n")), ["k", "m", "n"])
        self.check_endless(entries, "m")
        self.check_endless(entries, "k")
        self.check(4, entries, "m", {"k": 4})

    def test_names_that_only_lead_there(self):
        entries = {"da": ("ahead", "b", 1), "db": ("ahead", "c", 1), "dc": ("ahead", "b", 1)}
        self.assertEqual(sorted(self.check_endless(entries, "a")), ["b", "c"])

    def test_through_onward_steps(self):
        entries = {"dn": ("behind", (ONWARD,)), "bn": ("shut", (ONWARD,)), "on": ("behind", (("ask", "n"),))}
        self.assertEqual(self.check_endless(entries, "n"), ("n",))
        self.assertEqual(self.check_endless(entries, "n", (), "d"), ("n",))
        self.assertEqual(self.check_endless(entries, "n", (), "b"), ("n",))
        self.assertEqual(self.check_endless(entries, "n", (), "c"), ("n",))
        entries["on"] = ("behind", (("ask", "m"),))
        entries["cm"] = ("behind", (ONWARD,))
        entries["om"] = ("ahead", "n", 3)
        self.assertEqual(sorted(self.check_endless(entries, "n")), ["m", "n"])
        self.assertEqual(sorted(self.check_endless(entries, "m", (), "c")), ["m", "n"])

    def test_an_own_number_ends_it(self):
        entries = {"dn": ("behind", (("ask", "m"),)), "dm": ("behind", (("ask", "n"),))}
        self.check_endless(entries, "n")
        self.check(7, entries, "n", {"m": 7})
        self.check(7, entries, "m", {"n": 7})

    def test_an_own_number_does_not_end_an_asking_behind(self):
        # Asked behind d the own number is aside; the entry behind asks the name behind none, which is told.
        entries = {"dn": ("plain", 1), "bn": ("behind", (("ask", "n"), ("add", 1)))}
        self.check(8, entries, "n", {"n": 7}, "d")
        self.check(2, entries, "n", (), "d")

    def test_the_same_asking_twice_but_not_within_itself(self):
        entries = {"dn": ("behind", (("ask", "m"), ("ask", "k"), ("ask", "m"))), "dm": ("behind", (("ask", "k"),))}
        self.check(9, entries, "n", {"k": 3})


class ManyAskings(Asking):
    names = ("na", "nb", "nc", "nd", "ne", "nf")

    def test_nearly_fifty_within_one_another(self):
        world = chain_world([ONWARD, ("add", 1)], ["ask"], ("plain", 5))
        self.assertEqual(number_asked(world, "t", "na"), 5 + 6 * 7)

    def test_a_round_of_nearly_fifty_askings(self):
        world = chain_world([ONWARD, ("add", 1)], ["ask"], ("ahead", "na", 1))
        names = self.asked_in_vain(Endless, world, "t", "na").names
        self.assertEqual(sorted(names), sorted(self.names))
        self.assertTrue(ByTheWords(world, "t").is_round(names))

    def test_a_way_of_nearly_fifty_to_what_is_missing(self):
        world = chain_world([ONWARD], ["ask"], ("ahead", "z", 1))
        self.assertEqual(self.asked_in_vain(Missing, world, "t", "na").name, "z")

    def test_again_and_again_comes_home_at_once(self):
        world = chain_world([ONWARD] * 4, ["ask"] * 4, ("plain", 1))
        self.assertEqual(number_asked(world, "t", "na"), 4 ** 47)

    def test_again_and_again_by_names(self):
        family = (("a", ()),)
        names = [a + b for a in "abc" for b in "abcdefghijklmnopqrstuvwxyz"]
        book = [("a", name, ("behind", (("ask", over),) * 4)) for name, over in zip(names, names[1:])]
        world = (family, tuple(sorted(book + [("a", names[-1], ("plain", 1))])), (("t", "a", ()),))
        self.assertEqual(number_asked(world, "t", names[0]), 4 ** 77)
        self.assertEqual(number_asked(world, "t", names[70]), 4 ** 7)


class ByChance(Asking):
    def test_by_the_words(self):
        chance = random.Random(41)
        seen = []
        for turn in range(400):
            world = world_by_chance(chance)
            words = {thing: ByTheWords(world, thing) for thing, kind, own in world[2]}
            for thing, name, behind in askings_of(world):
                told = words[thing].tells(name, behind)
                if told[0] == "number":
                    self.assertEqual(number_asked(world, thing, name, behind), told[1])
                elif told[0] == "missing":
                    self.assertEqual(self.asked_in_vain(Missing, world, thing, name, behind).name, told[1])
                else:
                    names = self.asked_in_vain(Endless, world, thing, name, behind).names
                    self.assertTrue(words[thing].is_round(names), (world, names))
                    seen.append(("round", min(len(names), 3)))
                seen.append(told[0])
        for told in ("number", "missing", "endless", ("round", 1), ("round", 2), ("round", 3)):
            self.assertGreater(seen.count(told), 10, told)

    def test_what_is_handed_in_stays(self):
        chance = random.Random(42)
        for turn in range(20):
            world = world_by_chance(chance)
            kept = repr(world)
            for thing, name, behind in askings_of(world):
                try:
                    number_asked(world, thing, name, behind)
                except LineError:
                    pass
            self.assertEqual(repr(world), kept)

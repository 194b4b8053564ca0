"""What a house keeps, counts and drops: points 21 to 24."""

from helper import Refusing, book_of, kept_by, outcome
from parentlines.errors import (
    Endless, InUse, LineError, Missing, NoEntry, NoKind, NoName, NoNumber, NoParents, NoThing, Ring, Round, Shut, Taken)
from parentlines.house import House, house_of

# The line of d is d, b, c, o; x has no part in it; e is beneath d.
FAMILY = (("b", ("o",)), ("c", ("o",)), ("d", ("b", "c")), ("e", ("d",)), ("o", ()), ("x", ()))
ONWARD = ("onward",)
ONE = ("plain", 1)


def house_with(entries, things=(("t", "d", {}),)):
    triples = tuple((thing, kind, tuple(sorted(own.items()))) for thing, kind, own in things)
    return house_of((FAMILY, book_of(entries), triples))


class Walking(Refusing):
    def walk(self, house, kind, name, behind=""):
        """How many kinds a look comes to."""
        before = house.walked()
        house.found(kind, name, behind)
        return house.walked() - before

    def test_to_the_kind_that_has_the_name(self):
        house = house_with({"dn": ONE, "bm": ONE, "ck": ONE, "oj": ONE})
        self.assertEqual([self.walk(house, "d", name) for name in "nmkj"], [1, 2, 3, 4])
        self.assertEqual(house.walked(), 10)

    def test_to_the_line_s_end(self):
        house = house_with({"xn": ONE})
        self.assertEqual([self.walk(house, kind, "n") for kind in "dbcox"], [4, 2, 2, 1, 1])

    def test_from_the_kind_behind_which(self):
        house = house_with({"dn": ONE, "cn": ONE, "on": ONE})
        self.assertEqual([self.walk(house, "d", "n", behind) for behind in "dbco"], [2, 1, 1, 0])
        self.assertEqual([self.walk(house, "d", "q", behind) for behind in "dbco"], [3, 2, 1, 0])

    def test_what_is_kept_is_not_walked_again(self):
        house = house_with({"cn": ONE})
        for kind, name, behind, where in (
                ("d", "n", "", "c"), ("d", "n", "d", "c"), ("d", "n", "c", ""), ("d", "q", "", ""), ("b", "n", "", ""),
                ("d", "n", "o", "")):
            self.assertNotIn((name, behind, where), house.kept_finds(kind))
            house.found(kind, name, behind)
            self.assertIn((name, behind, where), house.kept_finds(kind))
            self.assertEqual(self.walk(house, kind, name, behind), 0)
        self.assertEqual(house.kept_finds("d"), [("n", "", "c"), ("n", "c", ""), ("n", "d", "c"), ("n", "o", ""), ("q", "", "")])
        self.assertEqual(house.kept_finds("b"), [("n", "", "")])
        self.assertEqual(house.kept_finds("c"), [])

    def test_what_is_kept_for_one_kind_is_not_for_another(self):
        house = house_with({"on": ONE})
        self.assertEqual([self.walk(house, kind, "n") for kind in "dbco"], [4, 2, 2, 1])
        self.assertEqual(self.walk(house, "d", "n", "b"), 2)

    def test_refused_looks_keep_nothing(self):
        house = house_with({"on": ONE})
        outcome(house.found, "d", "n", "x")
        outcome(house.found, "d", "N")
        outcome(house.ask, "t", "n", "x")
        outcome(house.ask, "q", "n")
        self.assertEqual((house.walked(), house.kept_finds("d")), (0, []))


class LookedFor(Refusing):
    def check(self, house, walked, finds, kind="d"):
        self.assertEqual((house.walked(), house.kept_finds(kind)), (walked, finds))

    def test_by_an_asking_at_the_thing_s_kind(self):
        house = house_with({"bn": ONE})
        house.ask("t", "n")
        self.check(house, 2, [("n", "", "b")])
        self.check(house, 2, [], "b")

    def test_by_an_asking_that_an_own_number_tells(self):
        house = house_with({"bn": ONE}, (("t", "d", {"n": 5, "m": 6}),))
        house.ask("t", "n")
        house.ask("t", "m")
        self.check(house, 6, [("m", "", ""), ("n", "", "b")])

    def test_by_an_asking_behind_a_kind(self):
        house = house_with({"bn": ONE}, (("t", "d", {"n": 5}),))
        house.ask("t", "n", "d")
        self.check(house, 1, [("n", "d", "b")])
        self.refused(Missing, house.ask, "t", "n", "b")
        self.check(house, 3, [("n", "b", ""), ("n", "d", "b")])

    def test_by_an_asking_to_which_nothing_is_found(self):
        house = house_with({})
        self.refused(Missing, house.ask, "t", "n")
        self.check(house, 4, [("n", "", "")])
        self.refused(Missing, house.ask, "t", "n")
        self.check(house, 4, [("n", "", "")])

    def test_by_those_that_are_come_to(self):
        house = house_with({"dn": ("behind", (("ask", "m"), ("ask", "m"))), "cm": ("ahead", "k", 1)}, (("t", "d", {"k": 2}),))
        self.assertEqual(house.ask("t", "n"), 6)
        self.check(house, 1 + 3 + 4, [("k", "", ""), ("m", "", "c"), ("n", "", "d")])

    def test_by_onward_steps_also_those_that_find_nothing(self):
        house = house_with({"dn": ("behind", (ONWARD,)), "cn": ("shut", (ONWARD, ONWARD))})
        self.assertEqual(house.ask("t", "n"), 0)
        self.check(house, 1 + 2 + 1, [("n", "", "d"), ("n", "c", ""), ("n", "d", "c")])

    def test_not_by_steps_behind_a_refusal(self):
        house = house_with({"dn": ("behind", (("ask", "m"), ("ask", "k"), ONWARD)), "dk": ONE})
        self.refused(Missing, house.ask, "t", "n")
        self.check(house, 1 + 4, [("m", "", ""), ("n", "", "d")])

    def test_an_asking_whose_number_is_kept_looks_for_nothing(self):
        house = house_with({"dn": ("behind", (ONWARD, ("ask", "m"))), "bn": ("behind", (("ask", "m"),)), "om": ONE})
        house.ask("t", "n")
        kept = kept_by(house)
        house.ask("t", "n")
        house.ask("t", "n", "d")
        self.assertEqual(kept_by(house), kept)

    def test_an_asking_come_to_whose_number_is_kept_looks_for_nothing(self):
        house = house_with({"dn": ("behind", (ONWARD, ("ask", "m"))), "bn": ("behind", (("ask", "k"),)),
                            "om": ("ahead", "k", 1), "ok": ONE})
        house.ask("t", "m")
        house.ask("t", "n", "d")
        self.check(house, 4 + 4 + 1, [("k", "", "o"), ("m", "", "o"), ("n", "d", "b")])
        house.ask("t", "n")
        self.check(house, 9 + 1, [("k", "", "o"), ("m", "", "o"), ("n", "", "d"), ("n", "d", "b")])
        self.assertEqual(house.reckoned(), 3)

    def test_by_each_name_on_the_way_of_put_and_drop(self):
        entries = {"dn": ("ahead", "m", 1), "bm": ("ahead", "k", 1), "ok": ONE}
        for word, handed in (("put", ("t", "n", 5)), ("drop", ("t", "n"))):
            house = house_with(entries, (("t", "d", {"k": 1}),))
            getattr(house, word)(*handed)
            self.check(house, 1 + 2 + 4, [("k", "", "o"), ("m", "", "b"), ("n", "", "d")])
            self.assertEqual(house.reckoned(), 0)

    def test_by_a_drop_that_is_missing(self):
        house = house_with({"dn": ("ahead", "m", 1)}, (("t", "d", {"n": 1}),))
        self.refused(Missing, house.drop, "t", "n")
        self.check(house, 1 + 4, [("m", "", ""), ("n", "", "d")])

    def test_by_the_name_at_which_it_is_refused_too(self):
        for word, handed in (("put", ("t", "n", 5)), ("drop", ("t", "n"))):
            house = house_with({"dn": ("ahead", "m", 1), "om": ("shut", (("ask", "k"),))})
            self.refused(Shut, getattr(house, word), *handed)
            self.check(house, 1 + 4, [("m", "", "o"), ("n", "", "d")])
            house = house_with({"dn": ("ahead", "m", 1), "om": ("ahead", "n", 1)})
            self.refused(Endless, getattr(house, word), *handed)
            self.check(house, 1 + 4, [("m", "", "o"), ("n", "", "d")])

    def test_put_and_drop_do_not_walk_what_is_kept(self):
        house = house_with({"dn": ("ahead", "m", 1)})
        self.refused(Missing, house.ask, "t", "n")
        walked = house.walked()
        house.put("t", "n", 5)
        house.put("t", "m", 5)
        house.drop("t", "n")
        self.assertEqual(house.walked(), walked)

    def test_not_by_a_put_or_drop_that_is_refused_ahead(self):
        house = house_with({"dn": ("ahead", "m", 1)})
        for word, handed in (("put", ("t", "n", True)), ("put", ("t", "N", 1)), ("put", ("s", "n", 1)),
                             ("drop", ("t", "N")), ("drop", ("s", "n"))):
            self.refused({"N": NoName, "n": NoNumber}[handed[1]] if handed[0] == "t" else NoThing,
                         getattr(house, word), *handed)
        self.check(house, 0, [])

    def test_not_by_other_deeds(self):
        house = house_with({"dn": ONE, "xn": ONE})
        house.make("a", ("d",))
        house.change("a", ())
        house.let_go("a")
        house.give("d", "m", ("behind", (("ask", "n"),)))
        house.take("d", "n")
        house.begin("s", "d")
        house.turn("s", "x")
        house.end("s")
        self.assertEqual((house.walked(), house.reckoned()), (0, 0))
        self.assertEqual([house.kept_finds(kind) for kind in "bcdeox"], [[]] * 6)


class Reckoning(Refusing):
    def test_entries_that_are_reckoned_are_kept_and_counted(self):
        for entry, number in ((("ahead", "m", 2), 5), (("behind", (("ask", "m"),)), 3), (("behind", ()), 0),
                              (("shut", (("add", 4),)), 4), (("shut", ()), 0), (("behind", (ONWARD,)), 0)):
            house = house_with({"bn": entry}, (("t", "d", {"m": 3}),))
            for again in range(2):
                self.assertEqual(house.ask("t", "n"), number)
                self.assertEqual(house.kept_numbers("t"), [("n", "", number)])
                self.assertEqual(house.reckoned(), 1)

    def test_plain_and_own_numbers_are_not(self):
        house = house_with({"bn": ONE, "dk": ("behind", (("ask", "n"),))}, (("t", "d", {"m": 3, "k": 4}),))
        for name in "nmk":
            house.ask("t", name)
            self.assertIsNone(house.rests("t", name))
        house.ask("t", "n", "d")
        self.assertIsNone(house.rests("t", "n", "d"))
        self.assertEqual((house.kept_numbers("t"), house.reckoned()), ([], 0))

    def test_askings_behind_a_kind(self):
        house = house_with({"dn": ("behind", (ONWARD, ("add", 1))), "on": ("behind", (("add", 7),))})
        self.assertEqual(house.ask("t", "n", "b"), 7)
        self.assertEqual(house.kept_numbers("t"), [("n", "b", 7)])
        self.assertEqual(house.ask("t", "n"), 8)
        self.assertEqual(house.kept_numbers("t"), [("n", "", 8), ("n", "b", 7), ("n", "d", 7)])
        self.assertEqual(house.reckoned(), 3)

    def test_an_asking_is_reckoned_once_in_a_whole(self):
        entries = {"dn": ("behind", (("ask", "m"), ("ask", "m"), ("ask", "k"))), "dm": ("behind", (("ask", "k"),)),
                   "dk": ("shut", (("add", 1),))}
        house = house_with(entries)
        self.assertEqual(house.ask("t", "n"), 3)
        self.assertEqual(house.reckoned(), 3)
        house.ask("t", "m")
        house.ask("t", "k")
        self.assertEqual(house.reckoned(), 3)

    def test_for_each_thing_by_itself(self):
        house = house_with({"on": ("behind", (("ask", "m"),))}, (("s", "d", {"m": 1}), ("t", "d", {"m": 2}), ("u", "b", {})))
        self.assertEqual((house.ask("s", "n"), house.ask("t", "n")), (1, 2))
        self.assertEqual((house.kept_numbers("s"), house.kept_numbers("t"), house.kept_numbers("u")),
                         ([("n", "", 1)], [("n", "", 2)], []))
        self.assertEqual(house.reckoned(), 2)
        # The finds are kept for the kind, of which both things are.
        self.assertEqual(house.walked(), 4 + 4)

    def test_a_refused_asking_counts_and_keeps_what_was_reckoned_on_its_way(self):
        entries = {"dn": ("behind", (("ask", "m"), ONWARD, ("ask", "q"))), "dm": ("behind", (("ask", "k"),)),
                   "dk": ("plain", 3), "on": ("shut", (("add", 1),))}
        house = house_with(entries)
        self.refused(Missing, house.ask, "t", "n")
        self.assertEqual(house.reckoned(), 3)
        self.assertEqual(house.kept_numbers("t"), [("m", "", 3), ("n", "d", 1)])
        self.assertEqual(house.rests("t", "m"), ["k", "m"])
        self.assertIsNone(house.rests("t", "n"))
        # Again the refused one alone begins.
        self.refused(Missing, house.ask, "t", "n")
        self.assertEqual(house.reckoned(), 4)
        house.put("t", "q", 5)
        self.assertEqual(house.ask("t", "n"), 9)
        self.assertEqual(house.reckoned(), 5)

    def test_an_endless_asking_counts_each_entry_that_began(self):
        entries = {"dn": ("behind", (("ask", "j"), ("ask", "m"))), "dm": ("ahead", "n", 1), "dj": ("shut", ())}
        house = house_with(entries)
        self.refused(Endless, house.ask, "t", "n")
        self.assertEqual((house.reckoned(), house.kept_numbers("t")), (3, [("j", "", 0)]))
        self.refused(Endless, house.ask, "t", "m")
        self.assertEqual((house.reckoned(), house.kept_numbers("t")), (5, [("j", "", 0)]))

    def test_an_asking_to_which_nothing_is_found_begins_nothing(self):
        house = house_with({})
        self.refused(Missing, house.ask, "t", "n")
        self.assertEqual(house.reckoned(), 0)


class RestsOn(Refusing):
    def check(self, names, entries, own=(), name="n", behind=""):
        house = house_with(entries, (("t", "d", dict(own)),))
        self.assertIsNone(house.rests("t", name, behind))
        house.ask("t", name, behind)
        self.assertEqual(house.rests("t", name, behind), names)

    def test_its_own_name(self):
        self.check(["n"], {"dn": ("behind", ())})
        self.check(["n"], {"dn": ("shut", (("add", 3), ("times", 2)))}, {"m": 1})
        self.check(["n"], {"dn": ONE, "on": ("behind", ())}, {}, "n", "d")

    def test_a_base_and_askings(self):
        self.check(["m", "n"], {"dn": ("ahead", "m", 3)}, {"m": 1})
        self.check(["m", "n"], {"dn": ("ahead", "m", 3), "om": ONE})
        self.check(["a", "n", "z"], {"dn": ("behind", (("ask", "z"), ("ask", "a")))}, {"a": 1, "z": 2})

    def test_through_askings(self):
        entries = {"dn": ("ahead", "m", 3), "om": ("behind", (("ask", "k"), ("ask", "j"))), "ck": ("shut", (("ask", "a"),)),
                   "oj": ONE, "oq": ONE}
        self.check(["a", "j", "k", "m", "n"], entries, {"a": 1})

    def test_through_onward_steps(self):
        entries = {"dn": ("behind", (ONWARD,)), "cn": ("behind", (("ask", "m"), ONWARD)), "om": ONE}
        self.check(["m", "n"], entries)
        self.check(["n"], {"dn": ("behind", (ONWARD,)), "cn": ONE})

    def test_also_where_0_comes_of_it(self):
        self.check(["m", "n"], {"dn": ("behind", (("ask", "m"), ("times", 0)))}, {"m": 1})

    def test_through_numbers_that_were_kept_ahead(self):
        house = house_with({"dn": ("ahead", "m", 3), "dm": ("ahead", "k", 1), "ok": ("behind", (ONWARD, ("ask", "a")))},
                           (("t", "d", {"a": 1}),))
        for name in "kmn":
            house.ask("t", name)
        self.assertEqual(house.rests("t", "n"), ["a", "k", "m", "n"])
        self.assertEqual(house.rests("t", "m"), ["a", "k", "m"])
        self.assertEqual(house.rests("t", "k"), ["a", "k"])

    def test_none_where_none_is_kept(self):
        house = house_with({"dn": ("behind", ()), "bn": ("behind", ())})
        house.ask("t", "n")
        self.assertIsNone(house.rests("t", "n", "d"))
        self.assertIsNone(house.rests("t", "m"))
        self.assertEqual(house.rests("t", "n"), ["n"])
        self.assertEqual(house.rests("t", "n", ""), ["n"])


class Dropping(Refusing):
    entries = {
        "dn": ("behind", (("ask", "m"), ONWARD)), "bn": ("shut", (("ask", "k"),)), "om": ("ahead", "k", 1),
        "oz": ("behind", (("add", 2),)), "xk": ONE, "xz": ONE, "xw": ("behind", ())}
    things = (("s", "b", {"k": 5}), ("t", "d", {"k": 3}), ("u", "x", {}), ("v", "e", {"k": 8}))

    def house(self):
        """A house that keeps finds for b, d, e and x, and numbers for s, t, u and v."""
        house = house_with(self.entries, self.things)
        for thing in "stv":
            for name in "nmz":
                house.ask(thing, name)
        house.ask("u", "w")
        house.found("x", "k")
        house.found("d", "q", "b")
        return house

    def dropped(self, word, *handed):
        """What a deed drops: kinds with names and things with names, of finds and of numbers."""
        house = self.house()
        before = kept_by(house)
        getattr(house, word)(*handed)
        family, book, things = house.world()
        kinds, names = [kind for kind, parents in family], [thing for thing, kind, own in things]
        finds = {(kind, row[0]) for kind in before[2] for row in before[2][kind]
                 if kind not in kinds or row not in house.kept_finds(kind)}
        numbers = {(thing, row[0]) for thing in before[3] for row in before[3][thing]
                   if thing not in names or row not in house.kept_numbers(thing)}
        # Nothing is walked, reckoned or kept anew by it, but for a put's and a drop's way.
        self.assertEqual(house.reckoned(), before[7])
        if word not in ("put", "drop"):
            self.assertEqual(house.walked(), before[6])
        for kind in kinds:
            self.assertTrue(set(house.kept_finds(kind)) <= set(before[2].get(kind, [])) or word in ("put", "drop"))
        for thing in names:
            self.assertTrue(set(house.kept_numbers(thing)) <= set(before[3].get(thing, [])))
        return ["".join(place) for place in sorted(finds)], ["".join(place) for place in sorted(numbers)]

    def test_what_is_kept_at_first(self):
        house = self.house()
        self.assertEqual([row[0] for row in house.kept_finds("d")], ["k", "m", "n", "n", "q", "z"])
        self.assertEqual(house.kept_finds("d")[4], ("q", "b", ""))
        self.assertEqual([row[0] for row in house.kept_finds("b")], ["k", "m", "n", "z"])
        self.assertEqual([row[0] for row in house.kept_finds("e")], ["k", "m", "n", "n", "z"])
        self.assertEqual(house.kept_finds("x"), [("k", "", "x"), ("w", "", "x")])
        self.assertEqual(house.kept_numbers("t"), [("m", "", 4), ("n", "", 7), ("n", "d", 3), ("z", "", 2)])
        self.assertEqual(house.kept_numbers("s"), [("m", "", 6), ("n", "", 5), ("z", "", 2)])
        self.assertEqual(house.kept_numbers("v"), [("m", "", 9), ("n", "", 17), ("n", "d", 8), ("z", "", 2)])
        self.assertEqual(house.kept_numbers("u"), [("w", "", 0)])

    def test_give_at_a_kind_of_the_lines(self):
        # m: n and m rest on it; at o it lies in the lines of b, d and e.
        finds, numbers = ["bm", "dm", "em"], ["sm", "tm", "tn", "vm", "vn"]
        self.assertEqual(self.dropped("give", "o", "m", ("plain", 5)), (finds, numbers))
        self.assertEqual(self.dropped("give", "b", "m", ("plain", 5)), (finds, numbers))
        self.assertEqual(self.dropped("give", "c", "m", ("plain", 5)), (finds[1:], numbers[1:]))
        self.assertEqual(self.dropped("give", "d", "m", ("plain", 5)), (finds[1:], numbers[1:]))
        self.assertEqual(self.dropped("give", "e", "m", ("plain", 5)), (finds[2:], numbers[3:]))

    def test_give_of_a_name_on_which_much_rests(self):
        self.assertEqual(self.dropped("give", "o", "k", ("plain", 5)),
                         (["bk", "dk", "ek"], ["sm", "sn", "tm", "tn", "vm", "vn"]))
        self.assertEqual(self.dropped("give", "e", "k", ("plain", 5)), (["ek"], ["vm", "vn"]))

    def test_give_of_a_name_of_which_none_was_found(self):
        self.assertEqual(self.dropped("give", "c", "q", ("plain", 5)), (["dq"], []))

    def test_give_at_a_kind_of_no_such_line(self):
        self.assertEqual(self.dropped("give", "x", "m", ("plain", 5)), ([], []))
        self.assertEqual(self.dropped("give", "x", "k", ("plain", 5)), (["xk"], []))
        self.assertEqual(self.dropped("give", "x", "w", ("plain", 5)), (["xw"], ["uw"]))

    def test_give_of_another_name(self):
        for kind in "bcdeox":
            self.assertEqual(self.dropped("give", kind, "j", ("plain", 5)), ([], []))

    def test_give_of_the_entry_that_it_has(self):
        self.assertEqual(self.dropped("give", "o", "m", self.entries["om"]),
                         (["bm", "dm", "em"], ["sm", "tm", "tn", "vm", "vn"]))
        self.assertEqual(self.dropped("give", "d", "n", self.entries["dn"]), (["dn", "en"], ["tn", "vn"]))
        self.assertEqual(self.dropped("give", "x", "w", self.entries["xw"]), (["xw"], ["uw"]))

    def test_give_behind_what_was_found(self):
        # Where another kind is found first, the finds and numbers of the name go all the same.
        self.assertEqual(self.dropped("give", "o", "n", ("plain", 5)),
                         (["bn", "dn", "en"], ["sn", "tn", "vn"]))

    def test_take(self):
        self.assertEqual(self.dropped("take", "o", "m"), (["bm", "dm", "em"], ["sm", "tm", "tn", "vm", "vn"]))
        self.assertEqual(self.dropped("take", "d", "n"), (["dn", "en"], ["tn", "vn"]))
        self.assertEqual(self.dropped("take", "o", "z"), (["bz", "dz", "ez"], ["sz", "tz", "vz"]))
        self.assertEqual(self.dropped("take", "x", "k"), (["xk"], []))
        self.assertEqual(self.dropped("take", "x", "z"), ([], []))

    def test_change(self):
        b, d, e = ["bk", "bm", "bn", "bz"], ["dk", "dm", "dn", "dq", "dz"], ["ek", "em", "en", "ez"]
        s, t, v = ["sm", "sn", "sz"], ["tm", "tn", "tz"], ["vm", "vn", "vz"]
        self.assertEqual(self.dropped("change", "o", ("x",)), (b + d + e, s + t + v))
        self.assertEqual(self.dropped("change", "o", ()), (b + d + e, s + t + v))
        self.assertEqual(self.dropped("change", "b", ()), (b + d + e, s + t + v))
        self.assertEqual(self.dropped("change", "b", ("o",)), (b + d + e, s + t + v))
        self.assertEqual(self.dropped("change", "c", ()), (d + e, t + v))
        self.assertEqual(self.dropped("change", "d", ("b", "c")), (d + e, t + v))
        self.assertEqual(self.dropped("change", "d", ()), (d + e, t + v))
        self.assertEqual(self.dropped("change", "e", ("d", "x")), (e, v))
        self.assertEqual(self.dropped("change", "x", ()), (["xk", "xw"], ["uw"]))
        self.assertEqual(self.dropped("change", "x", ("d",)), (["xk", "xw"], ["uw"]))

    def test_make_drops_nothing(self):
        self.assertEqual(self.dropped("make", "a", ()), ([], []))
        self.assertEqual(self.dropped("make", "a", ("d", "x")), ([], []))

    def test_let_go_drops_what_is_kept_for_the_kind(self):
        house = self.house()
        house.make("a", ("d",))
        house.found("a", "n")
        others = [house.kept_finds(kind) for kind in "bcdeox"], [house.kept_numbers(thing) for thing in "stuv"]
        self.assertEqual(house.kept_finds("a"), [("n", "", "d")])
        house.let_go("a")
        self.assertEqual(([house.kept_finds(kind) for kind in "bcdeox"], [house.kept_numbers(thing) for thing in "stuv"]), others)
        house.make("a", ())
        self.assertEqual(house.kept_finds("a"), [])
        self.assertIsNone(house.found("a", "n"))

    def test_begin_drops_nothing(self):
        self.assertEqual(self.dropped("begin", "w", "d"), ([], []))

    def test_end_and_turn_drop_what_is_kept_for_the_thing(self):
        self.assertEqual(self.dropped("end", "t"), ([], ["tm", "tn", "tz"]))
        self.assertEqual(self.dropped("end", "u"), ([], ["uw"]))
        self.assertEqual(self.dropped("turn", "t", "b"), ([], ["tm", "tn", "tz"]))
        self.assertEqual(self.dropped("turn", "t", "d"), ([], ["tm", "tn", "tz"]))
        self.assertEqual(self.dropped("turn", "u", "d"), ([], ["uw"]))

    def test_a_thing_of_the_same_name_has_nothing_kept(self):
        house = self.house()
        house.end("t")
        house.begin("t", "d")
        self.assertEqual(house.kept_numbers("t"), [])
        self.assertEqual(self.refused(Missing, house.ask, "t", "m").name, "k")

    def test_put_drops_what_rests_on_the_last_name_of_its_way_of_this_thing(self):
        self.assertEqual(self.dropped("put", "t", "k", 7), ([], ["tm", "tn"]))
        self.assertEqual(self.dropped("put", "t", "k", 3), ([], ["tm", "tn"]))
        self.assertEqual(self.dropped("put", "s", "k", 7), ([], ["sm", "sn"]))
        # The way of m ends at k.
        self.assertEqual(self.dropped("put", "t", "m", 7), ([], ["tm", "tn"]))
        self.assertEqual(self.dropped("put", "t", "m", 4), ([], ["tm", "tn"]))
        self.assertEqual(self.dropped("put", "t", "n", 7), ([], ["tn"]))
        self.assertEqual(self.dropped("put", "t", "z", 7), ([], ["tz"]))
        self.assertEqual(self.dropped("put", "t", "j", 7), ([], []))

    def test_put_does_not_drop_what_rests_on_the_first_name_of_its_way_alone(self):
        # The way of n goes over to a: what rests on n, but not on a, stays.
        entries = {"dn": ("ahead", "a", 1), "bn": ("behind", (("add", 4),))}
        house = house_with(entries, (("t", "d", {"a": 1}),))
        house.ask("t", "n", "d")
        house.ask("t", "n")
        self.assertEqual(house.kept_numbers("t"), [("n", "", 2), ("n", "d", 4)])
        house.put("t", "n", 9)
        self.assertEqual(house.kept_numbers("t"), [("n", "d", 4)])

    def test_drop(self):
        self.assertEqual(self.dropped("drop", "t", "k"), ([], ["tm", "tn"]))
        self.assertEqual(self.dropped("drop", "t", "m"), ([], ["tm", "tn"]))
        self.assertEqual(self.dropped("drop", "v", "k"), ([], ["vm", "vn"]))

    def test_what_is_dropped_is_walked_and_reckoned_anew(self):
        house = self.house()
        walked, reckoned = house.walked(), house.reckoned()
        house.give("c", "m", ("plain", 10))
        self.assertEqual(house.ask("t", "n"), 13)
        self.assertEqual((house.walked() - walked, house.reckoned() - reckoned), (3, 1))
        house.change("b", ())
        self.assertEqual(house.ask("t", "n"), 13)
        self.assertEqual((house.walked() - walked, house.reckoned() - reckoned), (3 + 1 + 3 + 1 + 4, 3))

    def test_refused_deeds_drop_nothing(self):
        house = self.house()
        house.give("x", "r", ("ahead", "r", 1))
        house.give("x", "y", ("shut", ()))
        house.found("x", "r")
        house.found("x", "y")
        kept = kept_by(house)
        for error, word, *handed in (
                (Taken, "make", "d", ()), (Ring, "make", "a", ("o", "b")), (NoParents, "change", "d", ("a",)),
                (NoKind, "change", "a", ()), (Round, "change", "o", ("d",)), (Ring, "change", "d", ("o", "b")),
                (InUse, "let_go", "o"), (InUse, "let_go", "x"), (NoKind, "let_go", "a"), (NoKind, "give", "a", "n", ONE),
                (NoName, "give", "d", "N", ONE), (NoEntry, "give", "d", "n", ("plain",)), (NoName, "take", "o", "n"),
                (NoName, "take", "d", "m"), (Taken, "begin", "t", "d"), (NoKind, "begin", "w", "a"), (NoThing, "end", "w"),
                (NoThing, "turn", "w", "d"), (NoKind, "turn", "t", "a"), (NoNumber, "put", "t", "k", "1"),
                (NoThing, "put", "w", "k", 1), (NoName, "put", "t", "K", 1), (Shut, "put", "u", "y", 1),
                (Endless, "put", "u", "r", 1), (Shut, "drop", "u", "y"), (Endless, "drop", "u", "r"),
                (Missing, "drop", "t", "n"), (Missing, "drop", "t", "z"), (Missing, "drop", "u", "w")):
            self.refused(error, getattr(house, word), *handed)
            self.assertEqual(kept_by(house), kept, (word, handed))

    def test_whatever_is_dropped_the_same_is_told(self):
        house = self.house()
        for deed in ("give o k", "take o m", "give e n", "take b n", "take d n", "give o m"):
            word, kind, name = deed.split()
            getattr(house, word)(*([kind, name, ("behind", (("add", 6),))] if word == "give" else [kind, name]))
            for thing in "stuv":
                for name in "kmnwz":
                    self.assertEqual(outcome(house.ask, thing, name), outcome(house_of(house.world()).ask, thing, name))


class HiddenNumbers(Refusing):
    def test_an_own_number_that_a_shut_entry_hides_is_told_again(self):
        house = house_with({"dn": ("shut", (("add", 2),))}, (("t", "d", {"n": 7}),))
        self.assertEqual(house.ask("t", "n"), 2)
        house.take("d", "n")
        self.assertEqual(house.ask("t", "n"), 7)
        house.give("o", "n", ("ahead", "m", 0))
        self.assertEqual(self.refused(Missing, house.ask, "t", "n").name, "m")
        house.give("b", "n", ONE)
        self.assertEqual(house.ask("t", "n"), 7)

    def test_a_put_hides_what_was_reckoned(self):
        house = house_with({"dn": ("behind", (("add", 2),))})
        self.assertEqual(house.ask("t", "n"), 2)
        house.put("t", "n", 9)
        self.assertEqual(house.ask("t", "n"), 9)
        house.drop("t", "n")
        self.assertEqual(house.ask("t", "n"), 2)
        self.assertEqual(house.reckoned(), 2)


class Stamps(Refusing):
    def stamps(self, house):
        return {kind: house.stamp(kind) for kind, parents in house.world()[0]}

    def test_make_change_give_and_take_are_counted(self):
        house = House()
        house.make("o", ())
        self.assertEqual(self.stamps(house), {"o": 1})
        house.make("b", ("o",))
        house.make("x", ())
        self.assertEqual(self.stamps(house), {"o": 1, "b": 2, "x": 3})
        house.give("o", "n", ONE)
        self.assertEqual(self.stamps(house), {"o": 4, "b": 4, "x": 3})
        house.take("o", "n")
        self.assertEqual(self.stamps(house), {"o": 5, "b": 5, "x": 3})
        house.give("b", "n", ONE)
        self.assertEqual(self.stamps(house), {"o": 5, "b": 6, "x": 3})
        house.change("x", ("b",))
        self.assertEqual(self.stamps(house), {"o": 5, "b": 6, "x": 7})
        house.change("x", ("b",))
        house.give("b", "n", ONE)
        self.assertEqual(self.stamps(house), {"o": 5, "b": 9, "x": 9})

    def test_of_the_line_as_it_is_now(self):
        house = house_with({})
        house.give("x", "n", ONE)
        house.change("c", ("x",))
        self.assertEqual(self.stamps(house), {"o": 0, "b": 0, "c": 2, "d": 2, "e": 2, "x": 1})
        house.give("o", "n", ONE)
        self.assertEqual(self.stamps(house), {"o": 3, "b": 3, "c": 2, "d": 3, "e": 3, "x": 1})
        house.change("c", ())
        house.give("x", "n", ONE)
        self.assertEqual(self.stamps(house), {"o": 3, "b": 3, "c": 4, "d": 4, "e": 4, "x": 5})

    def test_a_kind_made_above_old_ones_has_its_own_number(self):
        house = house_with({})
        house.give("o", "n", ONE)
        house.make("a", ("x",))
        house.make("f", ("b",))
        self.assertEqual((house.stamp("a"), house.stamp("f"), house.stamp("b")), (2, 3, 1))

    def test_a_deed_that_is_gone_with_its_kind(self):
        house = House()
        house.make("o", ())
        house.make("b", ())
        house.give("b", "n", ONE)
        house.change("o", ("b",))
        self.assertEqual(house.stamp("o"), 4)
        house.change("o", ())
        house.let_go("b")
        house.make("b", ())
        self.assertEqual(self.stamps(house), {"o": 5, "b": 6})

    def test_let_go_begin_end_turn_put_and_drop_are_not_counted(self):
        house = house_with({}, ())
        house.begin("t", "d")
        house.put("t", "n", 1)
        house.put("t", "m", 1)
        house.drop("t", "n")
        house.turn("t", "x")
        house.end("t")
        house.let_go("e")
        self.assertEqual(self.stamps(house), {"o": 0, "b": 0, "c": 0, "d": 0, "x": 0})
        house.give("x", "n", ONE)
        self.assertEqual(house.stamp("x"), 1)

    def test_refused_deeds_are_not_counted(self):
        house = house_with({"om": ONE})
        for word, *handed in (
                ("make", "d", ()), ("make", "a", ("o", "b")), ("change", "o", ("d",)), ("change", "d", ("o", "b")),
                ("change", "z", ()), ("give", "d", "n", None), ("give", "z", "n", ONE), ("take", "d", "m"),
                ("take", "z", "m")):
            with self.assertRaises(LineError):
                getattr(house, word)(*handed)
        self.assertEqual(set(self.stamps(house).values()), {0})
        house.take("o", "m")
        self.assertEqual(self.stamps(house), {"o": 1, "b": 1, "c": 1, "d": 1, "e": 1, "x": 0})

    def test_what_is_looked_for_and_asked_is_not_counted(self):
        house = house_with({"on": ("behind", ())})
        house.ask("t", "n")
        house.found("d", "n")
        self.assertEqual(set(self.stamps(house).values()), {0})

"""A house's world, its deeds and their refusals, and what it tells."""

from helper import PLAINLY, Refusing, anything, book_of, chain_world, kept_by, outcome, with_lists
from parentlines.errors import (
    Endless, InUse, Missing, NoEntry, NoKind, NoName, NoNumber, NoParents, NotAbove, NoThing, Ring, Round, Shut, Taken)
from parentlines.house import House, house_of
from parentlines.rows import is_ring
from parentlines.worlds import is_world

FAMILY = (("b", ("o",)), ("c", ("o",)), ("d", ("b", "c")), ("o", ()), ("x", ()))
ONWARD = ("onward",)
BOOK = book_of({
    "dn": ("behind", (ONWARD, ("ask", "m"))), "bn": ("plain", 4), "cm": ("ahead", "k", 1), "os": ("shut", (("add", 2),)),
    "dr": ("ahead", "r", 1), "xn": ("plain", 8), "oz": ("plain", 6)})
THINGS = (("p", "d", (("k", 3),)), ("q", "b", ()))
WORLD = (FAMILY, BOOK, THINGS)
EMPTY = ((), (), ())
DEEDS = ("make", "change", "let_go", "give", "take", "begin", "end", "turn", "put", "drop")


def no_texts():
    return [thing for thing in anything() if type(thing) is not str]


def busy_house():
    """A house that keeps finds and numbers, and has counted deeds."""
    house = house_of(WORLD)
    house.give("b", "y", ("behind", (("ask", "z"),)))
    house.change("x", ())
    for name in "nmkyz":
        for behind in ("", "d", "b"):
            outcome(house.ask, "p", name, behind)
    house.ask("q", "y")
    house.found("x", "n")
    return house


class TheWorld(Refusing):
    def test_at_first(self):
        house = House()
        self.assertEqual(kept_by(house), (EMPTY, {}, {}, {}, {}, {}, 0, 0))

    def test_house_of(self):
        house = house_of(WORLD)
        self.assertIs(type(house), House)
        self.assertEqual(house.world(), WORLD)
        none = {kind: [] for kind in "bcdox"}
        stamps = {kind: 0 for kind in "bcdox"}
        lines = {"b": ("b", "o"), "c": ("c", "o"), "d": ("d", "b", "c", "o"), "o": ("o",), "x": ("x",)}
        self.assertEqual(kept_by(house), (WORLD, lines, none, {"p": [], "q": []}, {}, stamps, 0, 0))
        self.assertEqual(house_of(EMPTY).world(), EMPTY)

    def test_no_deed_is_counted_at_first(self):
        house = house_of(WORLD)
        house.give("x", "n", ("plain", 1))
        self.assertEqual(house.stamp("x"), 1)

    def test_a_house_of_a_busy_house_s_world(self):
        house = house_of(busy_house().world())
        self.assertEqual(kept_by(house)[1:], kept_by(house_of(house.world()))[1:])
        self.assertEqual((house.walked(), house.reckoned(), house.kept_finds("d"), house.kept_numbers("p")), (0, 0, [], []))

    def test_two_houses_have_nothing_in_common(self):
        one, other = house_of(WORLD), house_of(WORLD)
        bare = kept_by(other)
        one.ask("p", "n")
        one.give("o", "n", ("plain", 1))
        one.put("p", "k", 9)
        one.let_go("x")
        self.assertEqual(kept_by(other), bare)
        first, second = House(), House()
        first.make("a", ())
        self.assertEqual(second.world(), EMPTY)

    def test_worlds_that_were_told_stay(self):
        house = house_of(WORLD)
        house.put("p", "k", 9)
        self.assertEqual(WORLD[2][0], ("p", "d", (("k", 3),)))
        told = house.world()
        house.end("p")
        self.assertEqual(told[2], (("p", "d", (("k", 9),)), ("q", "b", ())))


class Deeds(Refusing):
    def check(self, word, *handed):
        """A deed does what the plain function does to the world, and tells None."""
        house = busy_house()
        world = PLAINLY[word](house.world(), *handed)
        self.assertIsNone(getattr(house, word)(*handed))
        self.assertEqual(house.world(), world)
        self.assertTrue(is_world(world))
        for kind, parents in world[0]:
            self.assertEqual(house.line(kind), house_of(world).line(kind))
        return house

    def test_make(self):
        self.assertEqual(self.check("make", "e", ("d", "x")).line("e"), ("e", "d", "b", "c", "o", "x"))
        self.check("make", "a", ())
        house = House()
        house.make("o", ())
        house.make("a", ("o",))
        self.assertEqual(house.world(), ((("a", ("o",)), ("o", ())), (), ()))

    def test_change(self):
        house = self.check("change", "d", ("c", "b"))
        self.assertEqual(house.line("d"), ("d", "c", "b", "o"))
        self.assertEqual(self.check("change", "b", ()).line("d"), ("d", "b", "c", "o"))
        self.assertEqual(self.check("change", "b", ("x",)).line("d"), ("d", "b", "x", "c", "o"))
        self.check("change", "x", ())

    def test_let_go(self):
        house = self.check("let_go", "x")
        self.assertNotIn("x", dict(house.world()[0]))
        self.assertEqual([triple for triple in house.world()[1] if triple[0] == "x"], [])
        self.refused(NoKind, house.line, "x")
        # The names of the other kinds stay, and those called like the kind.
        self.assertEqual([triple for triple in house.world()[1] if triple[1] == "n"],
                         [("b", "n", ("plain", 4)), ("d", "n", ("behind", (ONWARD, ("ask", "m"))))])

    def test_give(self):
        self.check("give", "o", "w", ("plain", 1))
        self.check("give", "d", "n", ("shut", ()))
        self.check("give", "d", "n", ("behind", (ONWARD, ("ask", "m"))))

    def test_take(self):
        self.check("take", "d", "n")
        self.check("take", "x", "n")

    def test_begin(self):
        self.check("begin", "r", "d")
        self.check("begin", "d", "x")

    def test_end(self):
        self.check("end", "p")
        self.check("end", "q")

    def test_turn(self):
        house = self.check("turn", "p", "x")
        self.assertEqual(house.world()[2][0], ("p", "x", (("k", 3),)))
        self.check("turn", "p", "d")

    def test_put(self):
        self.check("put", "p", "m", 10)
        self.check("put", "p", "k", -3)
        self.check("put", "p", "n", 5)
        house = self.check("put", "q", "w", 0)
        self.assertEqual(house.ask("q", "w"), 0)

    def test_drop(self):
        self.check("drop", "p", "k")
        self.check("drop", "p", "m")

    def test_all_told(self):
        self.assertEqual(set(DEEDS), set(PLAINLY))


class RefusedDeeds(Refusing):
    def check(self, error, word, *handed):
        """Refused, with nothing changed: not the world, nor what is kept, nor a stamp, nor what the next deed counts."""
        house = busy_house()
        kept = kept_by(house)
        refusal = self.refused(error, getattr(house, word), *handed)
        self.assertEqual(kept_by(house)[:2] + kept_by(house)[3:6], kept[:2] + kept[3:6])
        for kind, finds in kept[2].items():
            self.assertEqual([find for find in house.kept_finds(kind) if find in finds], finds)
        if word not in ("put", "drop"):
            self.assertEqual(kept_by(house), kept)
        house.give("x", "n", ("plain", 1))
        self.assertEqual(house.stamp("x"), 3)
        return refusal

    def test_make(self):
        for kind in anything() + ["E", "abcdefghi"]:
            self.check(NoName, "make", kind, ())
            self.check(NoName, "make", kind, kind)
        for kind in "bcdox":
            self.check(Taken, "make", kind, ())
            self.check(Taken, "make", kind, ("z",))
        for parents in [thing for thing in anything()] + with_lists(("b", "c")) + [
                ("z",), ("b", "b"), ("e",), ("b", "c", "d", "o", "x"), "b"]:
            self.check(NoParents, "make", "e", parents)
        refusal = self.check(Ring, "make", "e", ("o", "b"))
        self.assertEqual(refusal.kind, "e")
        self.assertTrue(is_ring((("o",), ("b", "o"), ("o", "b")), refusal.ring))

    def test_change(self):
        for kind in anything() + ["z", "p"]:
            self.check(NoKind, "change", kind, ())
            self.check(NoKind, "change", kind, kind)
        for parents in [thing for thing in anything()] + [("z",), ("b", "b"), ["b"], ("o", "b", "c", "x", "d")]:
            self.check(NoParents, "change", "d", parents)
        self.assertEqual(self.check(Round, "change", "o", ("b",)).way, ("b", "o"))
        self.check(Round, "change", "d", ("d",))
        self.check(Round, "change", "o", ("x", "o"))
        self.assertEqual(self.check(Ring, "change", "d", ("o", "b")).kind, "d")
        # A ring that only shows beneath, and a round ahead of a ring.
        self.assertEqual(self.check(Ring, "change", "c", ("b",)).kind, "d")
        self.check(Round, "change", "b", ("o", "d"))

    def test_let_go(self):
        for kind in anything() + ["z", "p"]:
            self.check(NoKind, "let_go", kind)
        for kind in "oc":
            self.check(InUse, "let_go", kind)
        # b has an heir and a thing, d has a thing alone.
        self.check(InUse, "let_go", "b")
        self.check(InUse, "let_go", "d")

    def test_let_go_when_nothing_is_in_the_way_any_more(self):
        house = busy_house()
        house.turn("p", "x")
        self.refused(InUse, house.let_go, "x")
        house.let_go("d")
        house.end("q")
        house.let_go("b")
        self.assertEqual([kind for kind, parents in house.world()[0]], ["c", "o", "x"])
        self.assertEqual({kind for kind, name, entry in house.world()[1]}, {"c", "o", "x"})

    def test_give(self):
        entry = ("plain", 1)
        for kind in anything() + ["z", "p"]:
            self.check(NoKind, "give", kind, "n", entry)
            self.check(NoKind, "give", kind, kind, kind)
        for name in anything() + ["N"]:
            self.check(NoName, "give", "d", name, entry)
            self.check(NoName, "give", "d", name, name)
        for other in anything() + [("plain", True), ("behind", [("add", 1)]), ("times", 2), ("shut", (("times", 10),))]:
            self.check(NoEntry, "give", "d", "n", other)

    def test_take(self):
        for kind in anything() + ["z", "p"]:
            self.check(NoKind, "take", kind, "n")
            self.check(NoKind, "take", kind, kind)
        for name in anything() + ["N", "w", "m"]:
            self.check(NoName, "take", "d", name)

    def test_begin(self):
        for thing in anything() + ["P"]:
            self.check(NoName, "begin", thing, "d")
            self.check(NoName, "begin", thing, thing)
        self.check(Taken, "begin", "p", "d")
        self.check(Taken, "begin", "p", "z")
        for kind in anything() + ["z", "p"]:
            self.check(NoKind, "begin", "r", kind)

    def test_end_and_turn(self):
        for thing in anything() + ["r", "d"]:
            self.check(NoThing, "end", thing)
            self.check(NoThing, "turn", thing, "d")
            self.check(NoThing, "turn", thing, thing)
        for kind in anything() + ["z", "p"]:
            self.check(NoKind, "turn", "p", kind)

    def test_put(self):
        for thing in anything() + ["r", "d"]:
            self.check(NoThing, "put", thing, "n", 1)
            self.check(NoThing, "put", thing, thing, thing)
        for name in anything() + ["N"]:
            self.check(NoName, "put", "p", name, 1)
            self.check(NoName, "put", "p", name, True)
        for number in [thing for thing in anything() if type(thing) is not int]:
            self.check(NoNumber, "put", "p", "n", number)
        for name in "sr":
            self.check(NoNumber, "put", "p", name, True)
        self.check(Shut, "put", "p", "s", 1)
        self.assertEqual(self.check(Endless, "put", "p", "r", 1).names, ("r",))

    def test_drop(self):
        for thing in anything() + ["r", "d"]:
            self.check(NoThing, "drop", thing, "n")
            self.check(NoThing, "drop", thing, thing)
        for name in anything() + ["N"]:
            self.check(NoName, "drop", "p", name)
        self.check(Shut, "drop", "p", "s")
        self.assertEqual(self.check(Endless, "drop", "p", "r").names, ("r",))
        self.assertEqual(self.check(Missing, "drop", "q", "k").name, "k")
        self.assertEqual(self.check(Missing, "drop", "p", "n").name, "n")

    def test_drop_missing_at_the_end_of_the_way(self):
        house = busy_house()
        house.drop("p", "m")
        self.assertEqual(self.refused(Missing, house.drop, "p", "m").name, "k")


class Told(Refusing):
    def test_line(self):
        house = house_of(WORLD)
        self.assertEqual(house.line("d"), ("d", "b", "c", "o"))
        for kind in anything() + ["z", "p"]:
            self.refused(NoKind, house.line, kind)

    def test_found(self):
        house = house_of(WORLD)
        for again in range(2):
            self.assertEqual(house.found("d", "n"), ("d", ("behind", (ONWARD, ("ask", "m")))))
            self.assertEqual(house.found("d", "n", ""), house.found("d", "n"))
            self.assertEqual(house.found("d", "n", "d"), ("b", ("plain", 4)))
            self.assertIsNone(house.found("d", "n", "b"))
            self.assertIsNone(house.found("d", "w"))
            self.assertIs(type(house.found("d", "n")), tuple)

    def test_found_refused(self):
        house = house_of(WORLD)
        for thing in anything() + ["z", "p"]:
            self.refused(NoKind, house.found, thing, "n")
            self.refused(NoKind, house.found, thing, thing if type(thing) is not str else "N", thing)
        for thing in anything() + ["N"]:
            self.refused(NoName, house.found, "d", thing)
            self.refused(NoName, house.found, "d", thing, thing)
        for thing in no_texts() + [" ", "x", "z", "p", "n", ("d",)]:
            self.refused(NotAbove, house.found, "d", "n", thing)
        self.refused(NotAbove, house.found, "b", "n", "c")
        self.assertEqual(kept_by(house), kept_by(house_of(WORLD)))

    def test_ask(self):
        house = house_of(WORLD)
        for again in range(2):
            self.assertEqual(house.ask("p", "n"), 8)
            self.assertEqual(house.ask("p", "n", ""), 8)
            self.assertEqual(house.ask("p", "n", "d"), 4)
            self.assertEqual(house.ask("p", "m"), 4)
            self.assertEqual(house.ask("p", "k"), 3)
            self.assertEqual(house.ask("q", "n"), 4)
            self.assertEqual(house.ask("q", "s"), 2)
            self.assertIs(type(house.ask("p", "n")), int)
            self.assertEqual(self.refused(Missing, house.ask, "p", "w").name, "w")
            self.assertEqual(self.refused(Missing, house.ask, "p", "n", "b").name, "n")
            self.assertEqual(self.refused(Missing, house.ask, "p", "k", "d").name, "k")
            self.assertEqual(self.refused(Endless, house.ask, "p", "r").names, ("r",))

    def test_what_is_asked_of_a_thing_is_refused(self):
        for word in ("ask", "rests"):
            house = house_of(WORLD)
            for thing in anything() + ["d", "n", "r"]:
                self.refused(NoThing, getattr(house, word), thing, "n")
                self.refused(NoThing, getattr(house, word), thing, thing, thing)
            for name in anything() + ["N"]:
                self.refused(NoName, getattr(house, word), "p", name)
                self.refused(NoName, getattr(house, word), "p", name, name)
            for behind in no_texts() + [" ", "x", "z", "p", "n", ("d",)]:
                self.refused(NotAbove, getattr(house, word), "p", "n", behind)
                self.refused(NotAbove, getattr(house, word), "p", "w", behind)
            self.refused(NotAbove, getattr(house, word), "q", "n", "d")
            self.assertEqual(kept_by(house), kept_by(house_of(WORLD)))

    def test_what_is_kept_and_stamps_are_refused(self):
        house = busy_house()
        for thing in anything() + ["z", "p"]:
            self.refused(NoKind, house.kept_finds, thing)
            self.refused(NoKind, house.stamp, thing)
        for thing in anything() + ["r", "d"]:
            self.refused(NoThing, house.kept_numbers, thing)

    def test_lists_are_the_asker_s_own(self):
        house = busy_house()
        kept = kept_by(house)
        for told in (house.kept_finds("d"), house.kept_numbers("p"), house.rests("p", "n")):
            self.assertIs(type(told), list)
            self.assertTrue(told)
            self.assertEqual(told, sorted(told))
            told.clear()
            told.append("a")
        self.assertEqual(kept_by(house), kept)
        self.assertEqual(house.ask("p", "n"), 8)

    def test_tuples_within_the_lists(self):
        house = busy_house()
        for row in house.kept_finds("d") + house.kept_numbers("p"):
            self.assertIs(type(row), tuple)
            self.assertEqual(len(row), 3)

    def test_what_tells_of_the_house_keeps_and_counts_nothing(self):
        house = house_of(WORLD)
        for again in range(2):
            kept_by(house)
            house.rests("p", "n")
            house.rests("p", "n", "d")
            house.stamp("d")
            self.assertEqual(kept_by(house), kept_by(house_of(WORLD)))

    def test_what_is_handed_in_may_be_changed_behind_the_call(self):
        house = House()
        parents = []
        self.refused(NoParents, house.make, "o", parents)
        house.make("o", tuple(parents))
        steps = [("add", 1)]
        house.give("o", "n", ("behind", tuple(steps)))
        house.begin("p", "o")
        steps.append(("add", 9))
        parents.append("o")
        self.assertEqual(house.ask("p", "n"), 1)
        self.assertEqual(house.line("o"), ("o",))

    def test_nearly_fifty_askings_within_one_another(self):
        house = house_of(chain_world([ONWARD, ("add", 1)], ["ask"], ("plain", 5)))
        self.assertEqual(house.ask("t", "na"), 47)
        self.assertEqual(house.reckoned(), 47)
        self.assertEqual(len(house.kept_numbers("t")), 47)
        self.assertEqual(house.rests("t", "na"), ["na", "nb", "nc", "nd", "ne", "nf"])
        house = house_of(chain_world([ONWARD] * 4, ["ask"] * 4, ("plain", 1)))
        self.assertEqual(house.ask("t", "na"), 4 ** 47)
        self.assertEqual((house.walked(), house.reckoned()), (48, 47))
        house = house_of(chain_world([ONWARD], ["ask"], ("ahead", "na", 1)))
        names = self.refused(Endless, house.ask, "t", "na").names
        self.assertEqual(sorted(names), ["na", "nb", "nc", "nd", "ne", "nf"])
        self.assertEqual(house.kept_numbers("t"), [])

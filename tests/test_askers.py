from helper import Refusing, anything, book_of, kept_by, outcome
from parentlines.askers import Asker
from parentlines.errors import Endless, Missing, NoName, NoNumber, NoThing
from parentlines.house import House, house_of

# The line of d is d, b, c, o; x and y have no part in it.
FAMILY = (("b", ("o",)), ("c", ("o",)), ("d", ("b", "c")), ("o", ()), ("x", ()), ("y", ()))
ONWARD = ("onward",)
ONE = ("plain", 1)
ENTRIES = {"on": ("behind", (("ask", "m"),)), "xn": ONE, "ym": ("shut", ()), "yn": ("ahead", "m", 5)}
THINGS = (("p", "d", {"m": 3}), ("q", "b", {"m": 4}), ("r", "x", {}), ("s", "y", {}), ("t", "d", {"n": 9}),
          ("u", "c", {}))


def house_with(entries=None, things=THINGS):
    triples = tuple((thing, kind, tuple(sorted(own.items()))) for thing, kind, own in things)
    return house_of((FAMILY, book_of(ENTRIES if entries is None else entries), triples))


class Made(Refusing):
    def test_it_looks_for_nothing(self):
        house = house_with()
        bare = kept_by(house)
        for many in (1, 2, 3, 4):
            asker = Asker(house, "n", many)
            self.assertEqual((asker.misses(), asker.pairs()), (0, []))
        Asker(house, "zz")
        self.assertEqual(kept_by(house), bare)

    def test_no_name(self):
        house = house_with()
        for name in anything() + ["N", "abcdefghi"]:
            self.refused(NoName, Asker, house, name)
            self.refused(NoName, Asker, house, name, 5)
            self.refused(NoName, Asker, house, name, name)

    def test_no_number(self):
        house = house_with()
        fits = [1, 2, 3, 4]
        for many in [thing for thing in anything() if type(thing) is not int] + [0, -1, 5, 10 ** 20, True, False, "1", None]:
            self.assertTrue(type(many) is not int or many not in fits)
            self.refused(NoNumber, Asker, house, "n", many)

    def test_left_out_it_is_one(self):
        asker = Asker(house_with(), "n")
        asker.tells("p")
        asker.tells("r")
        self.assertEqual(asker.pairs(), [("x", 0)])


class Tells(Refusing):
    def test_what_the_house_tells(self):
        house = house_with()
        asker = Asker(house, "n", 2)
        for again in range(3):
            for thing, number in (("p", 3), ("q", 4), ("r", 1), ("s", 5), ("t", 9)):
                self.assertEqual(asker.tells(thing), number)
                self.assertEqual(house_with().ask(thing, "n"), number)
                self.assertIs(type(asker.tells(thing)), int)
            self.assertEqual(self.refused(Missing, asker.tells, "u").name, "m")

    def test_refusals_as_they_come(self):
        house = house_with({"dn": ("ahead", "m", 1), "bm": ("ahead", "n", 1)})
        self.assertEqual(sorted(self.refused(Endless, Asker(house, "n").tells, "p").names), ["m", "n"])
        self.assertEqual(self.refused(Missing, Asker(house, "n").tells, "q").name, "n")

    def test_what_the_house_reckons_is_kept_and_counted_there(self):
        house, other = house_with(), house_with()
        asker = Asker(house, "n")
        asker.tells("p")
        other.ask("p", "n")
        self.assertEqual(kept_by(house), kept_by(other))
        self.assertEqual(house.reckoned(), 1)
        asker.tells("p")
        self.assertEqual(house.reckoned(), 1)
        self.assertEqual(house.kept_numbers("p"), [("n", "", 3)])

    def test_a_refused_asking_keeps_what_was_reckoned_on_its_way(self):
        house = house_with({"dn": ("behind", (("ask", "k"), ("ask", "j"))), "dk": ("shut", (("add", 2),))})
        self.assertEqual(self.refused(Missing, Asker(house, "n").tells, "p").name, "j")
        self.assertEqual((house.reckoned(), house.kept_numbers("p")), (2, [("k", "", 2)]))

    def test_deeds_between(self):
        house = house_with()
        asker = Asker(house, "n", 4)
        self.assertEqual(asker.tells("p"), 3)
        house.put("p", "m", 8)
        self.assertEqual(asker.tells("p"), 8)
        house.give("d", "n", ("plain", 6))
        self.assertEqual(asker.tells("p"), 6)
        house.put("p", "n", 7)
        self.assertEqual(asker.tells("p"), 7)
        house.drop("p", "n")
        house.take("d", "n")
        self.assertEqual(asker.tells("p"), 8)
        house.change("b", ("x",))
        self.assertEqual(asker.tells("p"), 1)
        house.turn("p", "y")
        self.assertEqual(asker.tells("p"), 5)
        house.end("p")
        self.refused(NoThing, asker.tells, "p")
        house.begin("p", "x")
        self.assertEqual(asker.tells("p"), 1)

    def test_no_thing(self):
        house = house_with()
        asker = Asker(house, "n")
        bare = kept_by(house)
        for thing in anything() + ["d", "n", "z"]:
            self.refused(NoThing, asker.tells, thing)
        self.assertEqual((asker.misses(), asker.pairs()), (0, []))
        self.assertEqual(kept_by(house), bare)


class HitsAndMisses(Refusing):
    def check(self, asker, thing, missed, pairs):
        """Whether an asking is a miss, and the pairs behind it."""
        before = asker.misses()
        outcome(asker.tells, thing)
        self.assertEqual((asker.misses() - before, asker.pairs()), (missed, pairs))

    def test_a_miss_and_hits(self):
        asker = Asker(house_with(), "n")
        self.check(asker, "p", 1, [("d", 0)])
        self.check(asker, "p", 0, [("d", 0)])
        # Another thing of the same kind, by the same pair.
        self.check(asker, "t", 0, [("d", 0)])
        self.assertEqual(asker.misses(), 1)

    def test_a_miss_is_looked_for_at_the_house(self):
        house = house_with()
        asker = Asker(house, "n")
        asker.tells("t")
        self.assertEqual((house.walked(), house.kept_finds("d")), (4, [("n", "", "o")]))

    def test_on_a_hit_the_house_walks_nothing_for_this_name(self):
        house = house_with()
        asker = Asker(house, "n")
        asker.tells("t")
        walked = house.walked()
        asker.tells("t")
        self.assertEqual(house.walked(), walked)
        # For p, of the same kind, m is walked for, but n is not.
        asker.tells("p")
        self.assertEqual(asker.misses(), 1)
        self.assertEqual(house.walked(), walked + 4)
        self.assertEqual(house.kept_finds("d"), [("m", "", ""), ("n", "", "o")])

    def test_the_stamp_that_the_kind_has_now(self):
        house = house_with()
        asker = Asker(house, "n")
        asker.tells("p")
        # A deed at a kind of the line, of whatever name, makes another stamp.
        for stamp, deed in enumerate((
                lambda: house.give("o", "n", ONE), lambda: house.give("c", "j", ONE), lambda: house.take("o", "n"),
                lambda: house.change("b", ("o",)), lambda: house.change("d", ("b", "c")), lambda: house.take("c", "j")), 1):
            deed()
            self.check(asker, "t", 1, [("d", stamp)])
            self.check(asker, "t", 0, [("d", stamp)])

    def test_deeds_that_make_no_other_stamp(self):
        house = house_with()
        asker = Asker(house, "n")
        asker.tells("p")
        house.give("x", "n", ("plain", 2))
        house.change("x", ())
        house.make("e", ("d",))
        house.take("x", "n")
        house.let_go("e")
        house.begin("z", "d")
        house.put("z", "n", 4)
        house.put("p", "m", 4)
        house.drop("z", "n")
        house.turn("z", "x")
        house.end("z")
        outcome(house.give, "d", "n", None)
        self.check(asker, "p", 0, [("d", 0)])
        self.assertEqual(asker.tells("p"), 4)

    def test_a_miss_where_the_house_keeps_what_is_found(self):
        house = house_with()
        asker = Asker(house, "n")
        asker.tells("p")
        walked = house.walked()
        house.give("d", "j", ONE)
        self.check(asker, "p", 1, [("d", 1)])
        self.assertEqual(house.walked(), walked)

    def test_a_miss_where_the_house_keeps_the_number(self):
        house = house_with()
        house.ask("p", "n")
        walked, reckoned = house.walked(), house.reckoned()
        asker = Asker(house, "n")
        self.check(asker, "p", 1, [("d", 0)])
        self.assertEqual((house.walked(), house.reckoned()), (walked, reckoned))

    def test_a_hit_where_the_house_does_not_keep_the_number(self):
        house = house_with()
        asker = Asker(house, "n")
        asker.tells("p")
        house.put("p", "m", 6)
        reckoned = house.reckoned()
        self.check(asker, "p", 0, [("d", 0)])
        self.assertEqual(house.reckoned(), reckoned + 1)

    def test_a_miss_where_the_asking_is_refused(self):
        house = house_with()
        asker = Asker(house, "n", 2)
        self.refused(Missing, asker.tells, "u")
        self.assertEqual((asker.misses(), asker.pairs()), (1, [("c", 0)]))
        self.refused(Missing, asker.tells, "u")
        self.assertEqual((asker.misses(), asker.pairs()), (1, [("c", 0)]))
        asker = Asker(house, "zz")
        self.refused(Missing, asker.tells, "p")
        self.assertEqual((asker.misses(), asker.pairs()), (1, [("d", 0)]))
        self.assertIn(("zz", "", ""), house.kept_finds("d"))

    def test_one_pair(self):
        asker = Asker(house_with(), "n")
        self.check(asker, "p", 1, [("d", 0)])
        self.check(asker, "q", 1, [("b", 0)])
        self.check(asker, "p", 1, [("d", 0)])
        self.check(asker, "t", 0, [("d", 0)])

    def test_so_many_pairs(self):
        for many in (1, 2, 3, 4):
            asker = Asker(house_with(), "n", many)
            kinds = []
            for thing, kind in (("p", "d"), ("q", "b"), ("r", "x"), ("s", "y"), ("u", "c")):
                kinds = (kinds + [kind])[-many:]
                self.check(asker, thing, 1, [(kind, 0) for kind in sorted(kinds)])

    def test_the_oldest_goes_whenever_it_was_hit(self):
        asker = Asker(house_with(), "n", 2)
        self.check(asker, "p", 1, [("d", 0)])
        self.check(asker, "q", 1, [("b", 0), ("d", 0)])
        self.check(asker, "p", 0, [("b", 0), ("d", 0)])
        self.check(asker, "r", 1, [("b", 0), ("x", 0)])
        self.check(asker, "q", 0, [("b", 0), ("x", 0)])
        self.check(asker, "s", 1, [("x", 0), ("y", 0)])

    def test_that_of_the_same_kind_goes(self):
        house = house_with()
        asker = Asker(house, "n", 2)
        for thing in "pr":
            asker.tells(thing)
        house.give("x", "j", ONE)
        # The newest pair's stamp is old: it goes, the oldest one stays.
        self.check(asker, "r", 1, [("d", 0), ("x", 1)])
        self.check(asker, "p", 0, [("d", 0), ("x", 1)])

    def test_a_pair_made_anew_is_the_newest(self):
        house = house_with()
        asker = Asker(house, "n", 2)
        for thing in "pr":
            asker.tells(thing)
        house.give("d", "j", ONE)
        self.check(asker, "p", 1, [("d", 1), ("x", 0)])
        self.check(asker, "s", 1, [("d", 1), ("y", 0)])

    def test_with_room_left_none_goes(self):
        house = house_with()
        asker = Asker(house, "n", 4)
        for thing in "pr":
            asker.tells(thing)
        house.give("d", "j", ONE)
        self.check(asker, "p", 1, [("d", 1), ("x", 0)])
        self.check(asker, "s", 1, [("d", 1), ("x", 0), ("y", 0)])

    def test_pairs_of_old_stamps_are_told_still(self):
        house = house_with()
        asker = Asker(house, "n", 3)
        for thing in "psr":
            asker.tells(thing)
        house.give("o", "n", ONE)
        house.end("s")
        house.let_go("y")
        self.assertEqual(asker.pairs(), [("d", 0), ("x", 0), ("y", 0)])
        house.make("y", ())
        house.begin("s", "y")
        self.check(asker, "s", 1, [("d", 0), ("x", 0), ("y", 2)])
        self.assertEqual(self.refused(Missing, asker.tells, "s").name, "n")

    def test_pairs_is_the_asker_s_own_list(self):
        asker = Asker(house_with(), "n", 3)
        for thing in "spq":
            asker.tells(thing)
        told = asker.pairs()
        self.assertIs(type(told), list)
        self.assertTrue(all(type(pair) is tuple for pair in told))
        self.assertEqual(told, [("b", 0), ("d", 0), ("y", 0)])
        told.clear()
        self.assertEqual(asker.pairs(), [("b", 0), ("d", 0), ("y", 0)])
        self.check(asker, "s", 0, [("b", 0), ("d", 0), ("y", 0)])

    def test_misses_and_pairs_count_nothing(self):
        house = house_with()
        asker = Asker(house, "n")
        asker.tells("p")
        kept = kept_by(house)
        for again in range(3):
            self.assertEqual((asker.misses(), asker.pairs()), (1, [("d", 0)]))
        self.assertEqual(kept_by(house), kept)

    def test_askers_have_nothing_in_common(self):
        house = house_with()
        one, other, third = Asker(house, "n"), Asker(house, "n"), Asker(house, "m", 2)
        one.tells("p")
        self.assertEqual((other.misses(), other.pairs(), third.pairs()), (0, [], []))
        other.tells("q")
        self.assertEqual((one.pairs(), other.pairs(), third.misses()), ([("d", 0)], [("b", 0)], 0))

    def test_of_houses_with_nothing_in_common(self):
        house, second = House(), House()
        house.make("o", ())
        house.begin("p", "o")
        asker = Asker(second, "n")
        self.refused(NoThing, asker.tells, "p")
        self.assertEqual(second.walked(), 0)

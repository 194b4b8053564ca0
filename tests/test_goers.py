from helper import Refusing, anything, book_of, kept_by
from parentlines.errors import NoName, NotAbove, NoThing
from parentlines.goers import Goer
from parentlines.house import house_of

# The line of d is d, b, c, o; x has no part in it.
FAMILY = (("b", ("o",)), ("c", ("o",)), ("d", ("b", "c")), ("o", ()), ("x", ()))
ONE = ("plain", 1)
ENTRIES = {"bn": ("behind", (("onward",),)), "cn": ("shut", ()), "on": ("ahead", "m", 1), "cm": ONE, "xn": ONE}


def house_with(entries=None):
    things = (("p", "d", (("n", 5),)), ("q", "b", ()))
    return house_of((FAMILY, book_of(ENTRIES if entries is None else entries), things))


class Going(Refusing):
    def check(self, goer, *told):
        """It tells these, one behind the other, and stands at the last kind."""
        for kind in told:
            stood = goer.place()
            self.assertEqual(goer.go(), kind)
            self.assertEqual(goer.place(), stood if kind is None else kind)

    def test_each_kind_of_the_line_that_has_the_name_once(self):
        goer = Goer(house_with(), "p", "n")
        self.assertEqual(goer.place(), "")
        self.check(goer, "b", "c", "o", None, None)
        self.assertEqual(goer.place(), "o")

    def test_of_the_thing_s_kind(self):
        self.check(Goer(house_with(), "q", "n"), "b", "o", None)
        self.check(Goer(house_with(), "p", "m"), "c", None)

    def test_all_kinds_and_none(self):
        entries = {kind + "n": ONE for kind in "bcdo"}
        self.check(Goer(house_with(entries), "p", "n"), "d", "b", "c", "o", None)
        goer = Goer(house_with(), "p", "zz")
        self.check(goer, None, None)
        self.assertEqual(goer.place(), "")

    def test_own_numbers_have_no_part_in_it(self):
        goer = Goer(house_with({"xm": ONE}), "p", "n")
        self.check(goer, None)

    def test_sent_back(self):
        goer = Goer(house_with(), "p", "n")
        self.assertIsNone(goer.back())
        self.assertEqual(goer.place(), "")
        self.check(goer, "b", "c")
        self.assertIsNone(goer.back())
        self.assertEqual(goer.place(), "")
        self.check(goer, "b", "c", "o", None)
        goer.back()
        self.check(goer, "b")

    def test_goers_have_nothing_in_common(self):
        house = house_with()
        one, other = Goer(house, "p", "n"), Goer(house, "p", "n")
        self.check(one, "b", "c")
        self.assertEqual(other.place(), "")
        self.check(other, "b")
        one.back()
        self.check(other, "c")


class KeptAndCounted(Refusing):
    def test_made_it_looks_for_nothing(self):
        house = house_with()
        bare = kept_by(house)
        goer = Goer(house, "p", "n")
        goer.place()
        goer.back()
        self.assertEqual(kept_by(house), bare)

    def test_what_it_is_told_is_kept_at_the_house(self):
        house = house_with()
        goer = Goer(house, "p", "n")
        for walked, find in ((2, ("n", "", "b")), (3, ("n", "b", "c")), (4, ("n", "c", "o")), (4, ("n", "o", ""))):
            goer.go()
            self.assertEqual(house.walked(), walked)
            self.assertIn(find, house.kept_finds("d"))
        self.assertEqual(len(house.kept_finds("d")), 4)
        goer.back()
        for again in range(5):
            goer.go()
        self.assertEqual((house.walked(), house.reckoned(), len(house.kept_finds("d"))), (4, 0, 4))

    def test_what_the_house_keeps_is_told_from_there(self):
        house = house_with()
        house.found("d", "n")
        walked = house.walked()
        self.assertEqual(Goer(house, "p", "n").go(), "b")
        self.assertEqual(house.walked(), walked)

    def test_a_refused_going_keeps_nothing(self):
        house = house_with()
        goer = Goer(house, "p", "n")
        goer.go()
        house.turn("p", "x")
        kept = kept_by(house)
        self.refused(NotAbove, goer.go)
        house.end("p")
        self.refused(NoThing, goer.go)
        self.assertEqual(kept_by(house)[2], kept[2])
        self.assertEqual(kept_by(house)[6:], kept[6:])


class DeedsBetween(Refusing):
    def test_names_given_and_taken(self):
        house = house_with()
        goer = Goer(house, "p", "n")
        self.assertEqual(goer.go(), "b")
        house.take("b", "n")
        house.take("c", "n")
        self.assertEqual(goer.place(), "b")
        self.assertEqual(goer.go(), "o")
        self.assertIsNone(goer.go())
        # Given ahead of where it stands, a name is passed by.
        house.give("d", "n", ONE)
        self.assertIsNone(goer.go())
        goer.back()
        self.assertEqual([goer.go(), goer.go(), goer.go()], ["d", "o", None])

    def test_none_and_then_another(self):
        house = house_with()
        goer = Goer(house, "p", "m")
        self.assertEqual([goer.go(), goer.go()], ["c", None])
        house.give("o", "m", ONE)
        self.assertEqual(goer.go(), "o")

    def test_another_line(self):
        house = house_with()
        goer = Goer(house, "p", "n")
        self.assertEqual(goer.go(), "b")
        house.change("d", ("c", "b"))
        self.assertEqual(goer.go(), "o")
        goer.back()
        self.assertEqual([goer.go(), goer.go(), goer.go()], ["c", "b", "o"])

    def test_a_thing_that_is_turned(self):
        house = house_with()
        goer = Goer(house, "p", "n")
        self.assertEqual(goer.go(), "b")
        house.turn("p", "b")
        self.assertEqual(goer.go(), "o")
        house.turn("p", "d")
        self.assertIsNone(goer.go())

    def test_not_above_any_more(self):
        house = house_with()
        goer = Goer(house, "p", "n")
        self.assertEqual(goer.go(), "b")
        house.turn("p", "x")
        self.refused(NotAbove, goer.go)
        self.assertEqual(goer.place(), "b")
        self.refused(NotAbove, goer.go)
        house.turn("p", "d")
        self.assertEqual(goer.go(), "c")
        house.change("d", ("b",))
        self.refused(NotAbove, goer.go)
        goer.back()
        self.assertEqual([goer.go(), goer.go(), goer.go()], ["b", "o", None])

    def test_a_kind_that_was_let_go(self):
        house = house_with()
        house.make("e", ())
        house.give("e", "n", ONE)
        house.turn("p", "e")
        goer = Goer(house, "p", "n")
        self.assertEqual(goer.go(), "e")
        house.turn("p", "d")
        house.let_go("e")
        self.refused(NotAbove, goer.go)
        house.make("e", ("o",))
        house.turn("p", "e")
        self.assertEqual(goer.go(), "o")

    def test_nowhere_is_in_each_line(self):
        house = house_with()
        goer = Goer(house, "p", "n")
        house.turn("p", "x")
        self.assertEqual([goer.go(), goer.go()], ["x", None])

    def test_a_thing_that_has_ended(self):
        house = house_with()
        goer = Goer(house, "p", "n")
        self.assertEqual(goer.go(), "b")
        house.end("p")
        self.refused(NoThing, goer.go)
        self.assertEqual(goer.place(), "b")
        goer.back()
        self.refused(NoThing, goer.go)

    def test_a_thing_that_is_begun_of_that_name(self):
        house = house_with()
        goer = Goer(house, "p", "n")
        self.assertEqual(goer.go(), "b")
        house.end("p")
        house.begin("p", "b")
        self.assertEqual([goer.go(), goer.go()], ["o", None])
        house.end("p")
        house.begin("p", "c")
        self.assertIsNone(goer.go())
        house.end("p")
        house.begin("p", "x")
        self.refused(NotAbove, goer.go)

    def test_both_due_at_once(self):
        house = house_with()
        goer = Goer(house, "p", "n")
        goer.go()
        house.turn("p", "x")
        house.end("p")
        self.refused(NoThing, goer.go)


class Refused(Refusing):
    def test_no_thing(self):
        house = house_with()
        for thing in anything() + ["d", "n", "z"]:
            self.refused(NoThing, Goer, house, thing, "n")
            self.refused(NoThing, Goer, house, thing, thing)

    def test_no_name(self):
        house = house_with()
        bare = kept_by(house)
        for name in anything() + ["N", "abcdefghi"]:
            self.refused(NoName, Goer, house, "p", name)
        self.assertEqual(kept_by(house), bare)

import random

from helper import Refusing, anything, found_by_the_words, lines_by_the_words, world_by_chance
from parentlines.errors import NoKind, NoName, NotAbove
from parentlines.finds import all_found, found_at

FAMILY = (("b", ("o",)), ("c", ("o",)), ("d", ("b", "c")), ("o", ()), ("x", ()))
ONE, TWO, THREE = ("plain", 1), ("shut", ()), ("ahead", "q", 3)
BOOK = (("b", "n", ONE), ("c", "m", THREE), ("c", "n", TWO), ("o", "n", THREE), ("x", "z", ONE))


class FoundAt(Refusing):
    def test_at_the_kind_itself(self):
        self.assertEqual(found_at(FAMILY, BOOK, "b", "n"), ("b", ONE))
        self.assertEqual(found_at(FAMILY, BOOK, "o", "n"), ("o", THREE))

    def test_at_a_forebear(self):
        self.assertEqual(found_at(FAMILY, BOOK, "d", "n"), ("b", ONE))
        self.assertEqual(found_at(FAMILY, BOOK, "d", "m"), ("c", THREE))

    def test_the_line_goes_before_the_letter(self):
        turned = (("b", ("o",)), ("c", ("o",)), ("d", ("c", "b")), ("o", ()), ("x", ()))
        self.assertEqual(found_at(turned, BOOK, "d", "n"), ("c", TWO))

    def test_at_none(self):
        self.assertIsNone(found_at(FAMILY, BOOK, "b", "m"))
        self.assertIsNone(found_at(FAMILY, BOOK, "d", "z"))
        self.assertIsNone(found_at(FAMILY, (), "d", "n"))

    def test_behind(self):
        self.assertEqual(found_at(FAMILY, BOOK, "d", "n", "d"), ("b", ONE))
        self.assertEqual(found_at(FAMILY, BOOK, "d", "n", "b"), ("c", TWO))
        self.assertEqual(found_at(FAMILY, BOOK, "d", "n", "c"), ("o", THREE))
        self.assertEqual(found_at(FAMILY, BOOK, "b", "n", "b"), ("o", THREE))
        self.assertEqual(found_at(FAMILY, BOOK, "d", "n", ""), ("b", ONE))
        self.assertIsNone(found_at(FAMILY, BOOK, "d", "m", "c"))

    def test_behind_the_last_kind(self):
        self.assertIsNone(found_at(FAMILY, BOOK, "d", "n", "o"))
        self.assertIsNone(found_at(FAMILY, BOOK, "x", "z", "x"))

    def test_again_and_again(self):
        places = []
        found = found_at(FAMILY, BOOK, "d", "n")
        while found is not None:
            places.append(found[0])
            found = found_at(FAMILY, BOOK, "d", "n", found[0])
        self.assertEqual(places, ["b", "c", "o"])

    def test_a_pair_is_a_tuple(self):
        self.assertIs(type(found_at(FAMILY, BOOK, "d", "n")), tuple)

    def test_no_kind(self):
        for kind in anything() + ["z", ("b",)]:
            self.refused(NoKind, found_at, FAMILY, BOOK, kind, "n")
            self.refused(NoKind, found_at, FAMILY, BOOK, kind, "n", "b")

    def test_no_name(self):
        for name in anything() + ["N", "abcdefghi"]:
            self.refused(NoName, found_at, FAMILY, BOOK, "d", name)
            self.refused(NoName, found_at, FAMILY, BOOK, "d", name, "b")

    def test_not_above(self):
        for behind in [thing for thing in anything() if type(thing) is not str] + [" ", "B", "abcdefghi"]:
            self.refused(NotAbove, found_at, FAMILY, BOOK, "d", "n", behind)
        for kind, behind in (("b", "d"), ("b", "c"), ("d", "x"), ("d", "z"), ("d", "n"), ("o", "b"), ("d", "bc")):
            self.refused(NotAbove, found_at, FAMILY, BOOK, kind, "n", behind)

    def test_two_due_at_once(self):
        self.refused(NoKind, found_at, FAMILY, BOOK, "z", "N", "z")
        self.refused(NoKind, found_at, FAMILY, BOOK, "z", "n", "z")
        self.refused(NoKind, found_at, FAMILY, BOOK, "z", "N")
        self.refused(NoName, found_at, FAMILY, BOOK, "d", "N", "x")
        for thing in anything():
            self.refused(NoKind, found_at, FAMILY, BOOK, thing, thing, thing)
            self.refused(NoName, found_at, FAMILY, BOOK, "d", thing, thing)

    def test_by_the_words(self):
        chance = random.Random(21)
        for turn in range(150):
            family, book, things = world_by_chance(chance)
            lines = lines_by_the_words(dict(family))[0]
            for kind in lines:
                for name in "abcdef":
                    for behind in ("",) + lines[kind]:
                        self.assertEqual(
                            found_at(family, book, kind, name, behind),
                            found_by_the_words(lines[kind], book, name, behind))


class AllFound(Refusing):
    def test_names_and_places(self):
        self.assertEqual(all_found(FAMILY, BOOK, "d"), [("m", "c"), ("n", "b")])
        self.assertEqual(all_found(FAMILY, BOOK, "b"), [("n", "b")])
        self.assertEqual(all_found(FAMILY, BOOK, "x"), [("z", "x")])
        self.assertEqual(all_found(FAMILY, (), "d"), [])

    def test_sorted_by_name(self):
        book = (("b", "z", ONE), ("c", "a", ONE), ("d", "m", ONE), ("o", "b", ONE))
        self.assertEqual(all_found(FAMILY, book, "d"), [("a", "c"), ("b", "o"), ("m", "d"), ("z", "b")])

    def test_the_list_is_the_asker_s_own(self):
        first = all_found(FAMILY, BOOK, "d")
        self.assertIs(type(first), list)
        first.append(("a", "b"))
        first.reverse()
        self.assertEqual(all_found(FAMILY, BOOK, "d"), [("m", "c"), ("n", "b")])

    def test_no_kind(self):
        for kind in anything() + ["z", ("b",)]:
            self.refused(NoKind, all_found, FAMILY, BOOK, kind)

    def test_by_the_words(self):
        chance = random.Random(22)
        for turn in range(100):
            family, book, things = world_by_chance(chance)
            lines = lines_by_the_words(dict(family))[0]
            for kind in lines:
                told = [(name, found_by_the_words(lines[kind], book, name, "")) for name in "abcdef"]
                self.assertEqual(all_found(family, book, kind), [(name, found[0]) for name, found in told if found])

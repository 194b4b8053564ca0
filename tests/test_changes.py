import itertools
import random

from helper import (
    Refusing, all_rows_of, anything, family_of, forebears, is_way, lines_by_the_words, parents_by_chance,
    ring_by_the_words)
from parentlines.changes import kind_changed, kind_let_go, kind_made
from parentlines.errors import InUse, NoKind, NoName, NoParents, Ring, Round, Taken
from parentlines.families import is_family, line_of

DIAMOND = (("b", ("o",)), ("c", ("o",)), ("d", ("b", "c")), ("o", ()))
CROSSED = (("b", ()), ("c", ()), ("e", ("b", "c")), ("f", ("c", "b")))
# The kind g has two parents that are at one yet; changed, f sets them against one another, and i lies beneath g.
AT_ONE = (("b", ()), ("c", ()), ("e", ("b", "c")), ("f", ("b", "c")), ("g", ("e", "f")), ("i", ("g",)))
NO_PARENTS = [
    ("z",), ("b", "z"), ("b", "b"), ("b", "c", "b"), ["b"], [], "b", "", None, {"b": 1}, {"b"}, ("B",), (1,), ("",)]


class Changes(Refusing):
    def check_ring(self, refusal, above):
        """Points 7 and 10, of the parents as they would be."""
        lines, rings = lines_by_the_words(above)
        self.assertIn(refusal.kind, rings)
        self.assertIs(type(refusal.ring), tuple)
        self.assertTrue(ring_by_the_words(rings[refusal.kind], refusal.ring), refusal.ring)

    def check_round(self, refusal, above, kind, parents):
        self.assertIn(refusal.way[0], parents)
        self.assertTrue(is_way(above, refusal.way[0], kind, refusal.way), refusal.way)


class Made(Changes):
    def test_the_first_kind(self):
        self.assertEqual(kind_made((), "a", ()), (("a", ()),))

    def test_a_kind_more_in_its_place(self):
        family = kind_made(DIAMOND, "a", ())
        self.assertEqual(family, (("a", ()),) + DIAMOND)
        self.assertEqual(kind_made(DIAMOND, "e", ("d", "o")), DIAMOND[:3] + (("e", ("d", "o")), ("o", ())))
        self.assertEqual(kind_made(DIAMOND, "z", ("c",)), DIAMOND + (("z", ("c",)),))

    def test_four_parents(self):
        family = ()
        for kind in "abcde":
            family = kind_made(family, kind, ())
        told = kind_made(family, "f", ("d", "c", "b", "a"))
        self.assertEqual(line_of(told, "f"), ("f", "d", "c", "b", "a"))
        self.refused(NoParents, kind_made, family, "f", ("a", "b", "c", "d", "e"))

    def test_no_name(self):
        for kind in anything() + ["abcdefghi", "A", "", ("a",)]:
            self.refused(NoName, kind_made, DIAMOND, kind, ())
            self.refused(NoName, kind_made, DIAMOND, kind, kind)

    def test_taken(self):
        for kind in "bcdo":
            self.refused(Taken, kind_made, DIAMOND, kind, ())

    def test_no_parents(self):
        for parents in NO_PARENTS + anything():
            self.refused(NoParents, kind_made, DIAMOND, "x", parents)
            self.refused(NoParents, kind_made, DIAMOND, "x", ("b", parents))
        self.refused(NoParents, kind_made, DIAMOND, "x", ("x",))
        self.refused(NoParents, kind_made, DIAMOND, "x", ("b", "x"))

    def test_ring(self):
        for parents in (("e", "f"), ("f", "e"), ("b", "e"), ("c", "f", "b")):
            refusal = self.refused(Ring, kind_made, CROSSED, "g", parents)
            self.assertEqual(refusal.kind, "g")
            self.check_ring(refusal, dict(CROSSED + (("g", parents),)))

    def test_two_due_at_once(self):
        self.refused(NoName, kind_made, DIAMOND, "B", ("z",))
        self.refused(NoName, kind_made, CROSSED, "G", ("e", "f"))
        self.refused(Taken, kind_made, DIAMOND, "b", ("z",))
        self.refused(Taken, kind_made, DIAMOND, "b", None)
        self.refused(Taken, kind_made, CROSSED, "b", ("e", "f"))
        self.refused(NoParents, kind_made, CROSSED, "g", ("e", "f", "z"))
        self.refused(NoParents, kind_made, CROSSED, "g", ["e", "f"])


class Changed(Changes):
    def test_other_parents(self):
        told = kind_changed(DIAMOND, "d", ("c", "b"))
        self.assertEqual(told, (("b", ("o",)), ("c", ("o",)), ("d", ("c", "b")), ("o", ())))
        self.assertEqual(line_of(told, "d"), ("d", "c", "b", "o"))

    def test_no_parents_and_more(self):
        self.assertEqual(kind_changed(DIAMOND, "d", ())[2], ("d", ()))
        self.assertEqual(kind_changed(DIAMOND, "b", ("c", "o"))[0], ("b", ("c", "o")))

    def test_the_same_parents(self):
        for kind, parents in DIAMOND:
            self.assertEqual(kind_changed(DIAMOND, kind, parents), DIAMOND)

    def test_lines_beneath_are_made_anew_and_others_stay(self):
        family = kind_made(DIAMOND, "e", ("d",))
        told = kind_changed(kind_made(family, "x", ()), "b", ("x", "o"))
        self.assertEqual(line_of(told, "e"), ("e", "d", "b", "x", "c", "o"))
        self.assertEqual(line_of(told, "c"), line_of(family, "c"))

    def test_no_kind(self):
        for kind in anything() + ["z", ("b",)]:
            self.refused(NoKind, kind_changed, DIAMOND, kind, ())
            self.refused(NoKind, kind_changed, DIAMOND, kind, kind)
            self.refused(NoKind, kind_changed, (), kind, ())

    def test_no_parents_of_anything(self):
        for parents in NO_PARENTS + anything():
            self.refused(NoParents, kind_changed, DIAMOND, "d", parents)
            self.refused(NoParents, kind_changed, DIAMOND, "d", ("b", parents))
        five = tuple((kind, ()) for kind in "abcdef")
        self.refused(NoParents, kind_changed, five, "f", ("a", "b", "c", "d", "e"))
        self.assertEqual(kind_changed(five, "f", ("a", "b", "c", "d"))[5], ("f", ("a", "b", "c", "d")))

    def test_round(self):
        for kind, parents in (("o", ("d",)), ("o", ("b",)), ("b", ("d",)), ("b", ("o", "d")), ("c", ("b", "d"))):
            refusal = self.refused(Round, kind_changed, DIAMOND, kind, parents)
            self.check_round(refusal, dict(DIAMOND), kind, parents)

    def test_round_to_itself(self):
        self.assertEqual(self.refused(Round, kind_changed, DIAMOND, "o", ("o",)).way, ("o",))
        self.assertEqual(self.refused(Round, kind_changed, DIAMOND, "d", ("b", "d")).way, ("d",))

    def test_the_way_is_one_in_the_family_as_it_is(self):
        family = (("a", ()), ("b", ("a",)), ("c", ("b",)), ("x", ()))
        refusal = self.refused(Round, kind_changed, family, "a", ("x", "c"))
        self.assertEqual(refusal.way, ("c", "b", "a"))

    def test_ring_of_the_kind_itself(self):
        family = CROSSED + (("g", ()),)
        refusal = self.refused(Ring, kind_changed, family, "g", ("e", "f"))
        self.assertEqual(refusal.kind, "g")
        self.check_ring(refusal, dict(CROSSED + (("g", ("e", "f")),)))

    def test_ring_of_a_kind_beneath(self):
        refusal = self.refused(Ring, kind_changed, AT_ONE, "f", ("c", "b"))
        self.assertEqual(refusal.kind, "g")
        self.check_ring(refusal, dict(AT_ONE) | {"f": ("c", "b")})

    def test_two_due_at_once(self):
        self.refused(NoKind, kind_changed, DIAMOND, "z", ("z",))
        self.refused(NoKind, kind_changed, CROSSED, "z", ("e", "f"))
        self.refused(NoParents, kind_changed, DIAMOND, "o", ("d", "z"))
        self.refused(NoParents, kind_changed, DIAMOND, "o", ["d"])
        self.refused(NoParents, kind_changed, CROSSED + (("g", ()),), "g", ("e", "f", "f"))
        # Each of them: e is a forebear of g, and b ahead of f, whose line has b behind c, makes a ring.
        family = (("b", ()), ("c", ()), ("e", ()), ("f", ("c", "b")), ("g", ("e",)))
        self.refused(Round, kind_changed, family, "e", ("g", "b", "f"))
        self.refused(Ring, kind_changed, family, "e", ("b", "f"))

    def test_back_again(self):
        for kind, parents in (("d", ("c", "b")), ("d", ()), ("b", ("c",)), ("b", ("c", "o"))):
            told = kind_changed(DIAMOND, kind, parents)
            self.assertEqual(kind_changed(told, kind, dict(DIAMOND)[kind]), DIAMOND)


class LetGo(Changes):
    def test_a_kind_less(self):
        self.assertEqual(kind_let_go(DIAMOND, "d"), (DIAMOND[0], DIAMOND[1], DIAMOND[3]))
        self.assertEqual(kind_let_go((("a", ()),), "a"), ())

    def test_made_and_let_go(self):
        for kind, parents in (("a", ()), ("e", ("d", "o")), ("z", ("c", "b"))):
            self.assertEqual(kind_let_go(kind_made(DIAMOND, kind, parents), kind), DIAMOND)

    def test_in_use(self):
        for kind in "bco":
            self.refused(InUse, kind_let_go, DIAMOND, kind)

    def test_no_kind(self):
        for kind in anything() + ["z", ("d",)]:
            self.refused(NoKind, kind_let_go, DIAMOND, kind)


class ByTheWords(Changes):
    """Each change tried on many families, held against what points 8 to 10 tell."""

    def check_change(self, above, kind, parents):
        family = family_of(above)
        would = dict(above)
        would[kind] = parents
        if kind in above and any(kind in forebears(above, parent) for parent in parents):
            self.check_round(self.refused(Round, kind_changed, family, kind, parents), above, kind, parents)
            return Round
        deed = kind_changed if kind in above else kind_made
        lines, rings = lines_by_the_words(would)
        if rings:
            refusal = self.refused(Ring, deed, family, kind, parents)
            self.check_ring(refusal, would)
            self.assertEqual(self.refused(Ring, deed, family, kind, parents).ring, refusal.ring)
            return Ring
        told = deed(family, kind, parents)
        self.assertEqual(told, family_of(would))
        self.assertIs(is_family(told), True)
        self.assertEqual({other: line_of(told, other) for other in would}, lines)
        if kind in above:
            self.assertEqual(kind_changed(told, kind, above[kind]), family)
        return None

    def test_all_changes_of_few_kinds(self):
        for above in ({"a": (), "b": ("a",), "c": ("b",)}, {"a": (), "b": ("a",), "c": ("a", )}, dict(CROSSED)):
            for kind in sorted(above) + ["k"]:
                for parents in all_rows_of(sorted(above)):
                    self.check_change(above, kind, parents)

    def test_changes_by_chance(self):
        chance = random.Random(5)
        seen = []
        for turn in range(60):
            above = parents_by_chance(chance, "pqrstuvw"[:chance.randint(4, 7)], 5)
            if lines_by_the_words(above)[1]:
                continue
            for kind in sorted(above) + ["k"]:
                many = chance.randint(0, 4)
                seen.append(self.check_change(above, kind, tuple(chance.sample(sorted(above), many))))
        for told in (None, Round, Ring):
            self.assertGreater(seen.count(told), 10)

    def test_a_refused_change_leaves_the_family(self):
        family = AT_ONE
        copied = tuple((kind, tuple(parents)) for kind, parents in AT_ONE)
        self.refused(Ring, kind_changed, family, "f", ("c", "b"))
        self.refused(Round, kind_changed, family, "b", ("g",))
        self.refused(NoParents, kind_changed, family, "b", ("z",))
        self.refused(InUse, kind_let_go, family, "b")
        self.refused(Taken, kind_made, family, "b", ())
        self.assertEqual(family, copied)

    def test_parents_that_are_refused_stay_as_they_were(self):
        parents = ["b"]
        self.refused(NoParents, kind_made, DIAMOND, "x", parents)
        self.assertEqual(parents, ["b"])

    def test_what_is_told_is_a_sorted_tuple_of_pairs(self):
        for told in (kind_made(DIAMOND, "a", ("b",)), kind_changed(DIAMOND, "d", ()), kind_let_go(DIAMOND, "d")):
            self.assertIs(type(told), tuple)
            self.assertEqual(told, tuple(sorted(told)))
            for kind, parents in told:
                self.assertIs(type(parents), tuple)

    def test_kinds_one_by_one_in_any_order_tell_one_family(self):
        for order in itertools.permutations("abcd"):
            family = ()
            for kind in order:
                family = kind_made(family, kind, ())
            self.assertEqual(family, (("a", ()), ("b", ()), ("c", ()), ("d", ())))

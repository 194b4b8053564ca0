import itertools
import random
import unittest

from helper import (
    all_rows_of, anything, family_of, forebears, is_way, leads_round, lines_by_the_words, orders_that_keep,
    parents_by_chance, places, with_lists)
from parentlines.errors import LineError, NoKind
from parentlines.families import heirs_of, is_family, kinds_beneath, line_of, way_of
from parentlines.rows import keeps

DIAMOND = (("b", ("o",)), ("c", ("o",)), ("d", ("b", "c")), ("o", ()))
# Here e wants b ahead of c, and f wants c ahead of b: each has a line, but no heir of both has one.
CROSSED = (("b", ()), ("c", ()), ("e", ("b", "c")), ("f", ("c", "b")))


def families_by_chance():
    """Families of up to eight kinds, each with its lines, held against orders tried one by one."""
    chance = random.Random(11)
    told = [({}, {})]
    for turn in range(150):
        above = parents_by_chance(chance, "stuvwxyz"[:chance.randint(1, 8)], 6)
        lines, rings = lines_by_the_words(above)
        if not rings:
            told.append((above, lines))
    return told


FAMILIES = families_by_chance()


class IsFamily(unittest.TestCase):
    def check(self, thing, told):
        self.assertIs(is_family(thing), told, thing)
        self.assertIs(is_family(thing), told, thing)

    def test_families(self):
        for thing in ((), (("a", ()),), (("a", ()), ("b", ("a",))), DIAMOND, CROSSED):
            self.check(thing, True)

    def test_four_parents_but_not_five(self):
        free = tuple((kind, ()) for kind in "abcde")
        self.check(free + (("f", ("a", "b", "c", "d")),), True)
        self.check(free + (("f", ("a", "b", "c", "d", "e")),), False)
        self.check(free + (("f", ("e", "d", "c", "b")),), True)

    def test_pairs_that_are_not_sorted(self):
        for order in itertools.permutations(DIAMOND):
            self.check(order, order == DIAMOND)

    def test_kinds_told_twice(self):
        self.check((("a", ()), ("a", ())), False)
        self.check((("a", ()), ("b", ()), ("b", ("a",))), False)

    def test_parents_one_twice_or_strangers(self):
        self.check((("a", ()), ("b", ("a", "a"))), False)
        self.check((("a", ()), ("b", ("c",))), False)
        self.check((("a", ()), ("b", ("a", "c"))), False)
        self.check((("a", ("b",)),), False)

    def test_parents_that_are_no_tuple(self):
        for parents in ("", "a", ["a"], [], {"a": 1}, {"a"}, None, 0, b"a", frozenset("a")):
            self.check((("a", ()), ("b", parents)), False)

    def test_parents_that_lead_round(self):
        self.check((("a", ("a",)),), False)
        self.check((("a", ("b",)), ("b", ("a",))), False)
        self.check((("a", ("b",)), ("b", ("c",)), ("c", ("a",)), ("d", ())), False)
        self.check((("a", ("b",)), ("b", ("b",)), ("c", ())), False)

    def test_rows_with_a_ring(self):
        self.check(CROSSED + (("g", ("e", "f")),), False)
        self.check(CROSSED + (("g", ("f", "e")),), False)
        self.check(CROSSED + (("g", ("e",)), ("h", ("f",)), ("i", ("g", "h"))), False)
        # A parent told ahead of its own heir: the tuple of parents is the last of the rows.
        self.check((("a", ()), ("b", ("a",)), ("c", ("a", "b"))), False)
        self.check((("a", ()), ("b", ("a",)), ("c", ("b", "a"))), True)

    def test_lists_in_the_place_of_tuples(self):
        for family in (DIAMOND, CROSSED):
            for thing in with_lists(family):
                self.check(thing, False)
        self.check([], False)

    def test_kinds_that_are_no_names(self):
        for kind in ("", "A", "abcdefghi", "a1", 1, None, True, b"a", ("a",)):
            self.check(((kind, ()),), False)
            self.check(((kind, ()), ("z", (kind,))), False)

    def test_pairs_of_other_lengths(self):
        self.check((("a",),), False)
        self.check((("a", (), ()),), False)
        self.check(((),), False)
        self.check(("a", ()), False)
        self.check(("ab",), False)

    def test_of_anything(self):
        for thing in anything():
            self.check(thing, False)
            for other in places(DIAMOND, thing):
                self.check(other, False)

    def test_what_is_handed_in_stays(self):
        thing = [["a", []]]
        is_family(thing)
        self.assertEqual(thing, [["a", []]])

    def test_it_tells_what_the_words_tell(self):
        seen = []
        for parents in itertools.product(all_rows_of("abc"), repeat=3):
            above = dict(zip("abc", parents))
            told = not leads_round(above) and not lines_by_the_words(above)[1]
            self.check(family_of(above), told)
            seen.append(told)
        self.assertEqual(set(seen), {True, False})

    def test_it_tells_what_the_words_tell_of_more_kinds(self):
        chance = random.Random(3)
        seen = []
        for turn in range(300):
            above = parents_by_chance(chance, "abcdef")
            told = not lines_by_the_words(above)[1]
            self.check(family_of(above), told)
            seen.append(told)
        self.assertTrue(20 < sum(seen) < 280)


class LineOf(unittest.TestCase):
    def test_without_parents(self):
        self.assertEqual(line_of((("a", ()),), "a"), ("a",))
        self.assertEqual(line_of(DIAMOND, "o"), ("o",))

    def test_with_one_parent(self):
        self.assertEqual(line_of(DIAMOND, "b"), ("b", "o"))
        chain = (("a", ("b",)), ("b", ("c",)), ("c", ("d",)), ("d", ()))
        self.assertEqual(line_of(chain, "a"), ("a", "b", "c", "d"))
        self.assertEqual(line_of(chain, "c"), ("c", "d"))

    def test_with_two(self):
        self.assertEqual(line_of(DIAMOND, "d"), ("d", "b", "c", "o"))
        self.assertEqual(line_of(CROSSED, "e"), ("e", "b", "c"))
        self.assertEqual(line_of(CROSSED, "f"), ("f", "c", "b"))

    def test_with_three_and_four(self):
        free = tuple((kind, ()) for kind in "abcd")
        self.assertEqual(line_of(free + (("e", ("c", "a", "b")),), "e"), ("e", "c", "a", "b"))
        self.assertEqual(line_of(free + (("e", ("d", "b", "a", "c")),), "e"), ("e", "d", "b", "a", "c"))

    def test_a_row_is_taken_up_as_soon_as_it_may(self):
        family = (("a", ()), ("b", ()), ("p", ("a",)), ("q", ("b",)), ("r", ("p", "q")))
        self.assertEqual(line_of(family, "r"), ("r", "p", "a", "q", "b"))

    def test_the_tuple_of_parents_is_kept_and_is_the_last_row(self):
        family = (("a", ()), ("b", ("a",)), ("c", ("b", "a")))
        self.assertEqual(line_of(family, "c"), ("c", "b", "a"))

    def test_no_kind(self):
        for family in ((), DIAMOND):
            for kind in ["z", "oo", ("o",), ("o", ())] + anything():
                with self.assertRaises(NoKind):
                    line_of(family, kind)

    def test_it_is_a_tuple_and_told_alike(self):
        self.assertIs(type(line_of(DIAMOND, "d")), tuple)
        self.assertEqual(line_of(DIAMOND, "d"), line_of(DIAMOND, "d"))

    def test_it_begins_with_the_kind_and_has_each_forebear_once(self):
        for above, lines in FAMILIES:
            for kind in above:
                line = line_of(family_of(above), kind)
                self.assertEqual(line[0], kind)
                self.assertEqual(sorted(line), sorted(forebears(above, kind)))

    def test_it_keeps_lines_and_told_orders(self):
        for above, lines in FAMILIES:
            family = family_of(above)
            for kind in above:
                line = line_of(family, kind)
                kept = tuple(line_of(family, other) for other in line)
                kept += tuple(above[other] for other in line)
                self.assertIs(keeps(kept, line), True)

    def test_it_is_the_earliest(self):
        for above, lines in FAMILIES:
            for kind in above:
                self.assertEqual(line_of(family_of(above), kind), lines[kind])

    def test_the_earliest_of_all_that_keep_the_lines_above(self):
        # All lines above and all told orders are kept just where the kind's own rows are.
        family = (("a", ()), ("b", ("a",)), ("c", ()), ("d", ("c", "b")), ("e", ("b", "c")), ("f", ("d",)))
        rows = (("d", "c", "b", "a"), ("d",))
        self.assertEqual(line_of(family, "f")[1:], orders_that_keep(rows)[0])

    def test_cases_have_choices_and_many_parents(self):
        self.assertGreater(len(FAMILIES), 60)
        self.assertTrue([above for above, lines in FAMILIES if len(above) == 8])
        for many in range(5):
            self.assertTrue([above for above, lines in FAMILIES if many in [len(row) for row in above.values()]])

    def test_somewhat_beyond_eight_kinds(self):
        kinds = [a + b for a in "ab" for b in "abcdefghij"]
        chain = tuple((kind, tuple(kinds[at + 1:at + 2])) for at, kind in enumerate(kinds))
        self.assertEqual(line_of(chain, "aa"), tuple(kinds))

    def test_many_ways_come_home_at_once(self):
        kinds = [a + b for a in "ab" for b in "abcdefghijklmnopqrst"]
        woven = tuple((kind, tuple(kinds[at + 1:at + 5])) for at, kind in enumerate(kinds))
        self.assertEqual(line_of(woven, "aa"), tuple(kinds))
        self.assertIs(is_family(woven), True)
        self.assertTrue(is_way(dict(woven), "aa", "bt", way_of(woven, "aa", "bt")))


class BeneathAndHeirs(unittest.TestCase):
    def test_beneath(self):
        self.assertEqual(kinds_beneath(DIAMOND, "o"), ["b", "c", "d", "o"])
        self.assertEqual(kinds_beneath(DIAMOND, "b"), ["b", "d"])
        self.assertEqual(kinds_beneath(DIAMOND, "d"), ["d"])

    def test_heirs(self):
        self.assertEqual(heirs_of(DIAMOND, "o"), ["b", "c"])
        self.assertEqual(heirs_of(DIAMOND, "b"), ["d"])
        self.assertEqual(heirs_of(DIAMOND, "d"), [])

    def test_by_the_words(self):
        for above, lines in FAMILIES:
            family = family_of(above)
            for kind in above:
                beneath = sorted(other for other in above if kind in lines[other])
                self.assertEqual(kinds_beneath(family, kind), beneath)
                self.assertEqual(heirs_of(family, kind), sorted(other for other in above if kind in above[other]))

    def test_lists_are_the_asker_s_own(self):
        for told in (kinds_beneath, heirs_of):
            first = told(DIAMOND, "o")
            self.assertIs(type(first), list)
            kept = list(first)
            first.append("x")
            first.reverse()
            self.assertEqual(told(DIAMOND, "o"), kept)

    def test_no_kind(self):
        for told in (kinds_beneath, heirs_of):
            for kind in ["z", ("o",)] + anything():
                with self.assertRaises(NoKind):
                    told(DIAMOND, kind)
                with self.assertRaises(NoKind):
                    told((), kind)


class WayOf(unittest.TestCase):
    def test_from_a_kind_to_itself(self):
        self.assertEqual(way_of(DIAMOND, "d", "d"), ("d",))
        self.assertEqual(way_of(DIAMOND, "o", "o"), ("o",))

    def test_to_a_parent_and_beyond(self):
        self.assertEqual(way_of(DIAMOND, "b", "o"), ("b", "o"))
        self.assertEqual(way_of(DIAMOND, "d", "c"), ("d", "c"))
        self.assertIn(way_of(DIAMOND, "d", "o"), (("d", "b", "o"), ("d", "c", "o")))

    def test_none(self):
        self.assertIsNone(way_of(DIAMOND, "o", "d"))
        self.assertIsNone(way_of(DIAMOND, "b", "c"))

    def test_the_first_parent_does_not_lead_there(self):
        family = (("a", ("b", "c")), ("b", ("d",)), ("c", ("e",)), ("d", ()), ("e", ()))
        self.assertEqual(way_of(family, "a", "e"), ("a", "c", "e"))

    def test_by_the_words(self):
        for above, lines in FAMILIES:
            family = family_of(above)
            for a, b in itertools.product(above, repeat=2):
                way = way_of(family, a, b)
                self.assertEqual(way, way_of(family, a, b))
                if b in lines[a]:
                    self.assertTrue(is_way(above, a, b, way), (above, way))
                else:
                    self.assertIsNone(way)

    def test_no_kind(self):
        for thing in ["z", ("o",)] + anything():
            for a, b in ((thing, "o"), ("o", thing), (thing, thing)):
                with self.assertRaises(NoKind) as caught:
                    way_of(DIAMOND, a, b)
                self.assertIsInstance(caught.exception, LineError)

import itertools
import random
import unittest

from helper import all_rows_of, anything, orders_that_keep, ring_by_the_words
from parentlines.errors import LineError, Ring
from parentlines.rows import is_ring, is_row, keeps, merged


def small_cases():
    """All rows of few names, and some that reach the bounds: six rows, eight names."""
    cases = [rows for many in range(4) for rows in itertools.product(all_rows_of("abc"), repeat=many)]
    cases += itertools.product(all_rows_of("abcd"), repeat=2)
    chance = random.Random(7)
    for turn in range(150):
        names = list("hgfedcba"[:chance.randint(4, 6)])
        hidden = chance.sample(names, len(names))
        rows = []
        for number in range(chance.randint(3, 6)):
            row = sorted(chance.sample(names, chance.randint(0, len(names))), key=hidden.index)
            if chance.random() < 0.1:
                chance.shuffle(row)
            rows.append(tuple(row))
        cases.append(tuple(rows))
    return cases


CASES = [(rows, orders_that_keep(rows)) for rows in small_cases()]
TWO = (("a", "b"), ("b", "a"))
RING_OF_TWO = ((0, "a", "b"), (1, "b", "a"))
THREE = (("a", "x", "b"), ("b", "c"), (), ("c", "a"))
RING_OF_THREE = ((0, "a", "b"), (1, "b", "c"), (3, "c", "a"))


class Row(unittest.TestCase):
    def test_tuples_of_unlike_names(self):
        for row in all_rows_of("abc"):
            self.assertIs(is_row(row), True)

    def test_a_name_twice(self):
        self.assertIs(is_row(("a", "a")), False)
        self.assertIs(is_row(("a", "b", "a")), False)

    def test_of_anything(self):
        for thing in anything():
            self.assertIs(is_row(thing), False)


class RingRefused(unittest.TestCase):
    def refused(self, rows):
        with self.assertRaises(Ring) as caught:
            merged(rows)
        return caught.exception

    def check_refused(self, rows):
        refusal = self.refused(rows)
        self.assertIsNone(refusal.kind)
        self.assertIsInstance(refusal.ring, tuple)
        for wish in refusal.ring:
            self.assertIsInstance(wish, tuple)
            self.assertIs(type(wish[0]), int)
        self.assertTrue(ring_by_the_words(rows, refusal.ring), (rows, refusal.ring))
        self.assertIs(is_ring(rows, refusal.ring), True)
        self.assertEqual(self.refused(rows).ring, refusal.ring)
        return refusal.ring

    def test_of_two_wishes(self):
        self.assertEqual(len(self.check_refused(TWO)), 2)

    def test_of_more_wishes(self):
        self.assertEqual(len(self.check_refused((("a", "b"), ("b", "c"), ("c", "a")))), 3)
        rows = (("a", "b"), ("b", "c"), ("c", "d"), ("d", "e"), ("e", "f"), ("f", "a"))
        self.assertEqual(len(self.check_refused(rows)), 6)

    def test_places_of_rows_count_from_the_first_and_those_without_names_count(self):
        ring = self.check_refused(((), ("x",), ("a", "b"), (), ("b", "a")))
        self.assertEqual({k for k, a, b in ring}, {2, 4})

    def test_names_ahead_of_the_ring_and_behind_it(self):
        self.check_refused((("s", "t", "a", "b", "u"), ("s", "b", "a", "v"), ("v", "w")))

    def test_names_that_only_lead_to_the_ring(self):
        self.check_refused((("p", "q"), ("a", "p"), ("a", "b"), ("b", "a")))

    def test_a_long_row_against_another(self):
        self.check_refused((tuple("abcdefgh"), tuple("hgfedcba")))

    def test_it_is_a_line_error(self):
        with self.assertRaises(LineError):
            merged(TWO)

    def test_wherever_no_order_keeps_the_rows(self):
        for rows, fit in CASES:
            if not fit:
                self.check_refused(rows)


class Merged(unittest.TestCase):
    def test_no_rows(self):
        self.assertEqual(merged(()), ())

    def test_rows_without_names(self):
        self.assertEqual(merged(((),)), ())
        self.assertEqual(merged(((), (), ())), ())

    def test_one_row(self):
        self.assertEqual(merged((("c", "a", "b"),)), ("c", "a", "b"))

    def test_the_same_row_twice(self):
        self.assertEqual(merged((("b", "a"), ("b", "a"))), ("b", "a"))

    def test_free_names_go_by_the_rank_not_by_the_letter(self):
        self.assertEqual(merged((("z",), ("y",), ("x",))), ("z", "y", "x"))

    def test_the_rank_is_of_the_first_row_that_has_the_name(self):
        self.assertEqual(merged((("d", "b"), ("c", "b"), ("a", "d"))), ("c", "a", "d", "b"))
        self.assertEqual(merged((("x", "y"), ("z",), ("w", "x"))), ("z", "w", "x", "y"))

    def test_a_row_is_taken_up_again_as_soon_as_it_may(self):
        self.assertEqual(merged((("a", "d"), ("b", "c"), ("b", "d"))), ("a", "b", "d", "c"))

    def test_lines_of_two_parents(self):
        rows = (("b", "a", "o"), ("c", "a", "o"), ("b", "c"))
        self.assertEqual(merged(rows), ("b", "c", "a", "o"))

    def test_it_is_the_earliest_order_that_keeps_the_rows(self):
        for rows, fit in CASES:
            if fit:
                order = merged(rows)
                self.assertIs(type(order), tuple)
                self.assertEqual(order, fit[0], rows)
                self.assertEqual(merged(rows), order)

    def test_cases_reach_both_sides_and_choices(self):
        self.assertTrue([rows for rows, fit in CASES if not fit])
        self.assertTrue([rows for rows, fit in CASES if len(fit) > 5])

    def test_somewhat_beyond_the_bounds(self):
        names = tuple("abcdefghijkl")
        rows = tuple((name,) for name in names) + (names[::-1],)
        self.assertEqual(merged(rows), names[::-1])


class Keeps(unittest.TestCase):
    rows = (("a", "b"), (), ("c", "b"))

    def test_orders_that_keep_the_rows(self):
        self.assertIs(keeps(self.rows, ("a", "c", "b")), True)
        self.assertIs(keeps(self.rows, ("c", "a", "b")), True)

    def test_one_that_does_not(self):
        self.assertIs(keeps(self.rows, ("a", "b", "c")), False)
        self.assertIs(keeps(self.rows, ("b", "a", "c")), False)
        self.assertIs(keeps((("a", "c", "b"),), ("a", "b", "c")), False)

    def test_a_name_too_many(self):
        self.assertIs(keeps(self.rows, ("a", "c", "b", "d")), False)
        self.assertIs(keeps((), ("a",)), False)

    def test_a_name_too_few(self):
        self.assertIs(keeps(self.rows, ("a", "b")), False)
        self.assertIs(keeps(self.rows, ()), False)

    def test_a_name_in_the_place_of_another(self):
        self.assertIs(keeps(self.rows, ("a", "d", "b")), False)

    def test_a_name_twice(self):
        self.assertIs(keeps(self.rows, ("a", "c", "b", "b")), False)
        self.assertIs(keeps(self.rows, ("a", "c", "a", "b")), False)
        self.assertIs(keeps((("a",),), ("a", "a")), False)

    def test_no_names(self):
        self.assertIs(keeps((), ()), True)
        self.assertIs(keeps(((), ()), ()), True)

    def test_a_list_is_none(self):
        order = ["a", "c", "b"]
        self.assertIs(keeps(self.rows, order), False)
        self.assertEqual(order, ["a", "c", "b"])
        self.assertIs(keeps((), []), False)

    def test_what_is_like_a_row_but_none(self):
        for thing in ("ab", {"a": 1, "b": 2}, (("a",), ("b",)), (b"a", b"b"), ("a", None), (0, 1)):
            self.assertIs(keeps((("a", "b"),), thing), False)

    def test_of_anything(self):
        for rows in (self.rows, ((),), (), TWO, (("a",),)):
            for thing in anything():
                self.assertIs(keeps(rows, thing), False)

    def test_it_tells_what_the_words_tell(self):
        for rows, fit in CASES[::7]:
            names = sorted({name for row in rows for name in row})
            for order in itertools.permutations(names):
                self.assertIs(keeps(rows, order), order in fit)
            for order in fit[:2]:
                self.assertIs(keeps(rows, order[1:]), order == ())
                self.assertIs(keeps(rows, order + ("zz",)), False)


class Rings(unittest.TestCase):
    def check(self, rows, thing, told):
        self.assertIs(is_ring(rows, thing), told)
        self.assertIs(is_ring(rows, thing), told)

    def test_rings(self):
        self.check(TWO, RING_OF_TWO, True)
        self.check(TWO, RING_OF_TWO[::-1], True)
        self.check(THREE, RING_OF_THREE, True)
        self.check(THREE, RING_OF_THREE[1:] + RING_OF_THREE[:1], True)
        self.check(THREE, ((0, "a", "x"), (0, "x", "b")) + RING_OF_THREE[1:], True)

    def test_no_wishes_and_a_single_one(self):
        self.check(TWO, (), False)
        self.check(TWO, RING_OF_TWO[:1], False)
        self.check((("a",),), ((0, "a", "a"),), False)

    def test_one_name_ahead_of_itself(self):
        self.check((("a",), ("a",)), ((0, "a", "a"), (1, "a", "a")), False)
        self.check(TWO, ((0, "a", "b"), (1, "b", "b"), (1, "b", "a")), False)

    def test_wishes_that_do_not_close(self):
        self.check(THREE, RING_OF_THREE[:2], False)
        self.check(THREE, RING_OF_THREE[::-1], False)
        self.check(THREE, (RING_OF_THREE[0], RING_OF_THREE[2]), False)
        self.check((("a", "b"), ("b", "a", "c")), ((0, "a", "b"), (1, "b", "c")), False)

    def test_wishes_that_do_not_follow_in_the_middle(self):
        rows = (("a", "b"), ("c", "d"), ("d", "a"))
        self.check(rows, ((0, "a", "b"), (1, "c", "d"), (2, "d", "a")), False)

    def test_two_alike_ahead(self):
        self.check(TWO, RING_OF_TWO + RING_OF_TWO, False)
        rows = (("a", "b"), ("b", "a"), ("a", "c"), ("c", "a"))
        self.check(rows, ((0, "a", "b"), (1, "b", "a"), (2, "a", "c"), (3, "c", "a")), False)

    def test_places_that_are_none(self):
        self.check(TWO, ((0, "a", "b"), (2, "b", "a")), False)
        self.check(TWO, ((0, "a", "b"), (10 ** 30, "b", "a")), False)
        self.check(TWO, ((0, "a", "b"), (-1, "b", "a")), False)
        self.check(TWO, ((-2, "a", "b"), (1, "b", "a")), False)
        self.check(TWO, ((False, "a", "b"), (1, "b", "a")), False)
        self.check(TWO, ((0, "a", "b"), (True, "b", "a")), False)
        self.check(TWO, ((0, "a", "b"), ("1", "b", "a")), False)
        self.check(TWO, ((None, "a", "b"), (1, "b", "a")), False)
        self.check((), RING_OF_TWO, False)

    def test_a_name_that_does_not_stand_ahead(self):
        self.check(TWO, ((1, "a", "b"), (1, "b", "a")), False)
        self.check(TWO, ((0, "a", "b"), (0, "b", "a")), False)

    def test_a_name_that_is_not_in_the_row(self):
        self.check(TWO, ((0, "a", "c"), (1, "c", "a")), False)
        self.check((("a", "b"), ("a", "c")), ((0, "a", "b"), (1, "b", "c")), False)
        self.check((("a", "b"), ()), ((0, "a", "b"), (1, "b", "a")), False)

    def test_lists_in_the_place_of_tuples(self):
        ring = [(0, "a", "b"), (1, "b", "a")]
        self.check(TWO, ring, False)
        self.assertEqual(ring, list(RING_OF_TWO))
        self.check(TWO, ([0, "a", "b"], (1, "b", "a")), False)
        self.check(TWO, ((0, "a", "b"), [1, "b", "a"]), False)

    def test_wishes_of_other_lengths(self):
        self.check(TWO, ((0, "a", "b", "b"), (1, "b", "a")), False)
        self.check(TWO, ((0, "a"), (1, "b", "a")), False)
        self.check(TWO, ((), ()), False)

    def test_of_anything(self):
        rows = ((), (), ("p", "q"), ("q", "p"))
        first, second = (2, "p", "q"), (3, "q", "p")
        self.check(rows, (first, second), True)
        for thing in anything():
            self.check(rows, thing, False)
            self.check((), thing, False)
            self.check(rows, (thing, second), False)
            self.check(rows, (first, thing), False)
            for at in range(3):
                self.check(rows, (first, second[:at] + (thing,) + second[at + 1:]), False)

    def test_it_tells_what_the_words_tell(self):
        wishes = [(k, a, b) for k in (-1, 0, 1, 2) for a in "abc" for b in "abc"]
        for rows in (TWO, (("a", "b", "c"), ("c", "a")), (("a", "c", "b"), ("b", "c", "a"))):
            for many in range(4):
                for thing in itertools.product(wishes, repeat=many):
                    self.assertIs(is_ring(rows, thing), ring_by_the_words(rows, thing))

    def test_rows_with_an_order_have_no_ring(self):
        wishes = [(k, a, b) for k in (0, 1) for a in "abc" for b in "abc" if a != b]
        for rows, fit in CASES:
            if fit and len(rows) == 2 and {name for row in rows for name in row} == set("abc"):
                for many in (2, 3):
                    for thing in itertools.product(wishes, repeat=many):
                        self.assertIs(is_ring(rows, thing), False)

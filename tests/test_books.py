import itertools

from helper import Refusing, anything, places, with_lists
from parentlines.books import is_book, name_given, name_taken
from parentlines.errors import NoEntry, NoKind, NoName

FAMILY = (("b", ("o",)), ("c", ("o",)), ("d", ("b", "c")), ("o", ()))
ONE, TWO, BASE = ("plain", 1), ("behind", (("onward",), ("add", 2))), ("ahead", "a", -1)
BOOK = (("b", "a", ONE), ("b", "b", TWO), ("d", "a", BASE), ("o", "a", ONE), ("o", "x", ("shut", ())))
NO_ENTRIES = [("plain",), ("plain", True), ["plain", 1], ("times", 1), ("behind", (("times", 10),)), ("onward",), ()]


class IsBook(Refusing):
    def check(self, thing, told):
        self.assertIs(is_book(FAMILY, thing), told, thing)

    def test_books(self):
        self.check((), True)
        for many in range(len(BOOK) + 1):
            for thing in itertools.combinations(BOOK, many):
                self.check(thing, True)
        self.assertIs(is_book((), ()), True)

    def test_not_sorted(self):
        for order in itertools.permutations(BOOK):
            self.check(order, order == BOOK)

    def test_two_alike_in_kind_and_name(self):
        self.check((("b", "a", ONE), ("b", "a", ONE)), False)
        self.check((("b", "a", ONE), ("b", "a", ("plain", 2))), False)
        self.check((("b", "a", ONE), ("b", "a", TWO)), False)
        self.check((("b", "a", TWO), ("b", "a", ONE)), False)

    def test_kinds_of_the_family(self):
        self.check((("a", "a", ONE),), False)
        self.check(BOOK + (("z", "a", ONE),), False)
        self.assertIs(is_book((), BOOK), False)
        self.assertIs(is_book((("a", ()),), (("a", "a", ONE),)), True)

    def test_names_and_entries_that_are_none(self):
        for name in ("", "A", "abcdefghi", 1, None, ("a",)):
            self.check((("b", name, ONE),), False)
        for entry in NO_ENTRIES:
            self.check((("b", "a", entry),), False)

    def test_triples_of_other_lengths(self):
        self.check((("b", "a"),), False)
        self.check((("b", "a", ONE, ONE),), False)
        self.check(((),), False)
        self.check(("b", "a", ONE), False)

    def test_lists_in_the_place_of_tuples(self):
        self.check([], False)
        for thing in with_lists(BOOK):
            self.check(thing, False)

    def test_of_anything(self):
        for thing in anything():
            self.check(thing, False)
            self.assertIs(is_book((), thing), False)
            for other in places(BOOK, thing):
                if type(thing) is not int:
                    self.check(other, False)
                else:
                    self.assertIn(is_book(FAMILY, other), (True, False))


class Given(Refusing):
    def test_a_name_more(self):
        self.assertEqual(name_given(FAMILY, (), "c", "a", ONE), (("c", "a", ONE),))
        told = name_given(FAMILY, BOOK, "c", "z", TWO)
        self.assertEqual(told, BOOK[:2] + (("c", "z", TWO),) + BOOK[2:])
        self.assertEqual(name_given(FAMILY, BOOK, "b", "c", ONE), BOOK[:2] + (("b", "c", ONE),) + BOOK[2:])

    def test_a_kind_and_a_name_may_be_called_alike(self):
        self.assertEqual(name_given(FAMILY, (), "o", "o", ONE), (("o", "o", ONE),))

    def test_anew_in_the_place_of_the_old_entry(self):
        told = name_given(FAMILY, BOOK, "b", "b", ONE)
        self.assertEqual(told, BOOK[:1] + (("b", "b", ONE),) + BOOK[2:])
        self.assertEqual(name_given(FAMILY, told, "b", "b", TWO), BOOK)

    def test_the_entry_that_it_has(self):
        for kind, name, entry in BOOK:
            self.assertEqual(name_given(FAMILY, BOOK, kind, name, entry), BOOK)

    def test_no_kind(self):
        for kind in anything() + ["z", ("b",)]:
            self.refused(NoKind, name_given, FAMILY, BOOK, kind, "a", ONE)

    def test_no_name(self):
        for name in anything() + ["A", "abcdefghi"]:
            self.refused(NoName, name_given, FAMILY, BOOK, "b", name, ONE)

    def test_no_entry(self):
        for entry in anything() + NO_ENTRIES:
            self.refused(NoEntry, name_given, FAMILY, BOOK, "b", "a", entry)

    def test_two_due_at_once(self):
        self.refused(NoKind, name_given, FAMILY, BOOK, "z", "A", ONE)
        self.refused(NoKind, name_given, FAMILY, BOOK, "z", "a", ())
        self.refused(NoKind, name_given, FAMILY, BOOK, "z", "A", ())
        self.refused(NoName, name_given, FAMILY, BOOK, "b", "A", ())
        for thing in anything():
            self.refused(NoKind, name_given, FAMILY, BOOK, thing, thing, thing)
            self.refused(NoName, name_given, FAMILY, BOOK, "b", thing, thing)


class Taken(Refusing):
    def test_a_name_less(self):
        for at, (kind, name, entry) in enumerate(BOOK):
            self.assertEqual(name_taken(FAMILY, BOOK, kind, name), BOOK[:at] + BOOK[at + 1:])

    def test_given_and_taken(self):
        told = name_given(FAMILY, BOOK, "c", "a", TWO)
        self.assertEqual(name_taken(FAMILY, told, "c", "a"), BOOK)

    def test_no_kind(self):
        for kind in anything() + ["z", ("b",)]:
            self.refused(NoKind, name_taken, FAMILY, BOOK, kind, "a")

    def test_no_name(self):
        for name in anything() + ["A", "abcdefghi"]:
            self.refused(NoName, name_taken, FAMILY, BOOK, "b", name)

    def test_a_name_that_the_kind_has_not(self):
        for kind, name in (("b", "x"), ("c", "a"), ("d", "b"), ("o", "z")):
            self.refused(NoName, name_taken, FAMILY, BOOK, kind, name)
        self.refused(NoName, name_taken, FAMILY, (), "b", "a")

    def test_two_due_at_once(self):
        self.refused(NoKind, name_taken, FAMILY, BOOK, "z", "A")
        self.refused(NoKind, name_taken, FAMILY, BOOK, "z", "q")
        for thing in anything():
            self.refused(NoKind, name_taken, FAMILY, BOOK, thing, thing)


class WhatIsTold(Refusing):
    def test_books_of_the_family_in_any_order_of_deeds(self):
        for order in itertools.permutations(BOOK):
            book = ()
            for kind, name, entry in order:
                book = name_given(FAMILY, book, kind, name, entry)
                self.assertIs(type(book), tuple)
                self.assertIs(is_book(FAMILY, book), True)
            self.assertEqual(book, BOOK)
        for kind, name, entry in BOOK[::-1]:
            book = name_taken(FAMILY, book, kind, name)
            self.assertIs(is_book(FAMILY, book), True)
        self.assertEqual(book, ())

    def test_what_is_handed_in_stays(self):
        entry = ["plain", 1]
        self.refused(NoEntry, name_given, FAMILY, BOOK, "b", "a", entry)
        self.assertEqual(entry, ["plain", 1])
        book = tuple(BOOK)
        name_given(FAMILY, book, "b", "a", TWO)
        name_taken(FAMILY, book, "b", "a")
        self.assertEqual(book, BOOK)

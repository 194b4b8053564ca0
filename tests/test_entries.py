import itertools
import unittest

from helper import anything, places, with_lists
from parentlines.entries import is_entry

STEPS = [("add", 0), ("add", -7), ("times", 9), ("times", -9), ("times", 0), ("ask", "a"), ("ask", "abcdefgh"),
         ("onward",)]
ENTRIES = [
    ("plain", 0), ("plain", -5), ("plain", 10 ** 17), ("ahead", "a", 0), ("ahead", "abcdefgh", -3),
    ("behind", ()), ("shut", ()), ("behind", (("onward",),)), ("shut", (("ask", "b"), ("times", -2))),
    ("behind", (("add", 1), ("times", 2), ("ask", "c"), ("onward",))), ("shut", (("onward",),) * 4),
]


class Entries(unittest.TestCase):
    def check(self, thing, told):
        self.assertIs(is_entry(thing), told, thing)

    def check_step(self, step, told):
        for word in ("behind", "shut"):
            self.check((word, (step,)), told)
            self.check((word, (("add", 1), step)), told)
            self.check((word, (step, ("add", 1))), told)

    def test_each_kind_of_entry(self):
        for entry in ENTRIES:
            self.check(entry, True)

    def test_numbers_that_are_whole_ones(self):
        for number in (0, 1, -1, 10 ** 18 - 1, -10 ** 18 + 1, 10 ** 40):
            self.check(("plain", number), True)
            self.check(("ahead", "a", number), True)
            self.check_step(("add", number), True)

    def test_numbers_that_are_none(self):
        for number in (True, False, None, "1", b"1", (1,), [1], "a"):
            self.check(("plain", number), False)
            self.check(("ahead", "a", number), False)
            self.check_step(("add", number), False)
            self.check_step(("times", number), False)

    def test_times(self):
        for number in range(-9, 10):
            self.check_step(("times", number), True)
        for number in (10, -10, 11, -11, 100, 10 ** 20, -10 ** 20):
            self.check_step(("times", number), False)
            self.check_step(("add", number), True)

    def test_none_to_four_steps(self):
        for word in ("behind", "shut"):
            for many in range(5):
                for steps in itertools.combinations(STEPS, many):
                    self.check((word, steps), True)
            for steps in itertools.combinations(STEPS, 5):
                self.check((word, steps), False)
            self.check((word, STEPS[:1] * 4), False)
            self.check((word, tuple(STEPS[:1] * 4)), True)
            self.check((word, tuple(STEPS[:1] * 5)), False)

    def test_names(self):
        for name in ("", "A", "abcdefghi", "a1", "a ", 1, None, True, ("a",), ["a"], b"a"):
            self.check(("ahead", name, 1), False)
            self.check_step(("ask", name), False)

    def test_lengths(self):
        for thing in ((), ("plain",), ("plain", 1, 1), ("ahead", "a"), ("ahead", "a", 1, 1), ("ahead",),
                      ("behind",), ("behind", (), ()), ("shut",), ("shut", (), ())):
            self.check(thing, False)
        for step in ((), ("add",), ("add", 1, 1), ("times",), ("times", 1, 1), ("ask",), ("ask", "a", "a"),
                     ("onward", 1), ("onward", "a"), ("onward", ())):
            self.check_step(step, False)

    def test_words(self):
        for word in ("Plain", "plain ", "", "plai", "add", "ask", "onward", "a", b"plain", None, 1, ("plain",)):
            self.check((word, 1), False)
            self.check((word, ()), False)
            self.check((word, "a", 1), False)
            self.check((word,), False)
        for word in ("Add", "plain", "ahead", "behind", "shut", "", "a", b"add", None, 0, ("add",)):
            self.check_step((word, 1), False)
            self.check_step((word, "a"), False)
            self.check_step((word,), False)

    def test_words_of_another_kind_of_entry(self):
        self.check(("plain", ()), False)
        self.check(("ahead", 1, "a"), False)
        self.check(("behind", 1), False)
        self.check(("shut", "a", 1), False)
        self.check(("behind", ("onward",)), False)
        self.check(("behind", ("add", 1)), False)
        self.check(("behind", "onward"), False)
        self.check_step("onward", False)

    def test_lists_in_the_place_of_tuples(self):
        for entry in ENTRIES:
            for thing in with_lists(entry):
                self.check(thing, False)

    def test_of_anything(self):
        fits = [thing for thing in anything() if type(thing) is int]
        for thing in anything():
            self.check(thing, False)
            for entry in ENTRIES:
                for other in places(entry, thing):
                    told = is_entry(other)
                    self.assertIn(told, (True, False))
                    if not any(thing is number for number in fits):
                        self.assertIs(told, False, other)

import unittest

from helper import anything
from parentlines.errors import NoName
from parentlines.words import are_rising, check_name, is_name, is_whole


class WholeNumbers(unittest.TestCase):
    def test_ints_are(self):
        for number in (0, 1, -1, 10 ** 18, -10 ** 300):
            self.assertIs(is_whole(number), True)

    def test_true_and_false_are_none(self):
        self.assertIs(is_whole(True), False)
        self.assertIs(is_whole(False), False)

    def test_nothing_else_is(self):
        for thing in anything():
            fits = isinstance(thing, int) and thing is not True and thing is not False
            self.assertIs(is_whole(thing), fits)
        for thing in ("1", b"1", (1,), [1], None):
            self.assertIs(is_whole(thing), False)


class Names(unittest.TestCase):
    def test_one_to_eight_small_letters(self):
        for name in ("a", "z", "az", "abcdefgh", "stuvwxyz", "aaaaaaaa"):
            self.assertIs(is_name(name), True)

    def test_too_few_and_too_many(self):
        self.assertIs(is_name(""), False)
        self.assertIs(is_name("abcdefghi"), False)

    def test_other_signs(self):
        for sign in "AZ09_-. \n\t`{@[~\u00e9\u00df\u0430\uff41":
            for text in (sign, "a" + sign, sign + "a", "a" + sign + "a"):
                self.assertIs(is_name(text), False, repr(text))

    def test_nothing_else_is(self):
        for thing in anything():
            self.assertIs(is_name(thing), False)
        for thing in (b"a", ("a",), ["a"], {"a"}, {"a": 1}):
            self.assertIs(is_name(thing), False)

    def test_what_is_none_is_refused(self):
        for name in ("a", "abcdefgh"):
            self.assertIsNone(check_name(name))
        for thing in anything():
            with self.assertRaises(NoName):
                check_name(thing)


class Rising(unittest.TestCase):
    def test_sorted_and_no_two_alike(self):
        for names in ([], ["a"], ["a", "aa", "b"], [("a", "b"), ("a", "c"), ("b", "a")]):
            self.assertIs(are_rising(names), True)

    def test_others(self):
        for names in (["b", "a"], ["a", "a"], ["a", "c", "b"], [("a", "b"), ("a", "b")], [("b", "a"), ("a", "b")]):
            self.assertIs(are_rising(names), False)

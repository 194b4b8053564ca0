import unittest

from parentlines import errors

OF_A_TEXT = [
    errors.NoName, errors.NoKind, errors.NoParents, errors.Taken, errors.InUse, errors.NoEntry,
    errors.NoThing, errors.NoNumber, errors.NotAbove, errors.Shut, errors.NoText, errors.NoRow,
]
RING = ((0, "a", "b"), (1, "b", "a"))


def one_of_each():
    made = [refusal("some words") for refusal in OF_A_TEXT]
    made += [errors.Ring("c", RING), errors.Round(("a", "b")), errors.Missing("a"), errors.Endless(("a", "b"))]
    return made


class Classes(unittest.TestCase):
    def test_line_error_stands_straight_under_value_error(self):
        self.assertEqual(errors.LineError.__bases__, (ValueError,))

    def test_sixteen_refusals_stand_straight_under_line_error(self):
        made = one_of_each()
        self.assertEqual(len({type(refusal) for refusal in made}), 16)
        for refusal in made:
            self.assertEqual(type(refusal).__bases__, (errors.LineError,))

    def test_each_is_a_line_error_and_a_value_error_and_no_other_refusal(self):
        made = one_of_each()
        for refusal in made:
            self.assertIsInstance(refusal, errors.LineError)
            self.assertIsInstance(refusal, ValueError)
            fits = [other for other in made if isinstance(refusal, type(other))]
            self.assertEqual(len(fits), 1)

    def test_names_are_those_of_the_interface(self):
        names = sorted(type(refusal).__name__ for refusal in one_of_each())
        self.assertEqual(names, sorted(
            "NoName NoKind NoParents Taken InUse NoEntry NoThing NoNumber NotAbove Shut NoText NoRow"
            " Ring Round Missing Endless".split()))


class Made(unittest.TestCase):
    def test_of_a_text(self):
        for refusal in OF_A_TEXT + [errors.LineError]:
            with self.assertRaises(refusal) as caught:
                raise refusal("some words")
            self.assertEqual(str(caught.exception), "some words")

    def test_ring(self):
        with self.assertRaises(errors.Ring) as caught:
            raise errors.Ring("c", RING)
        self.assertEqual((caught.exception.kind, caught.exception.ring), ("c", RING))

    def test_ring_of_no_kind(self):
        self.assertIsNone(errors.Ring(None, RING).kind)
        self.assertEqual(errors.Ring(None, RING).ring, RING)

    def test_round(self):
        with self.assertRaises(errors.Round) as caught:
            raise errors.Round(("a", "b"))
        self.assertEqual(caught.exception.way, ("a", "b"))

    def test_missing(self):
        with self.assertRaises(errors.Missing) as caught:
            raise errors.Missing("a")
        self.assertEqual(caught.exception.name, "a")

    def test_endless(self):
        with self.assertRaises(errors.Endless) as caught:
            raise errors.Endless(("a", "b"))
        self.assertEqual(caught.exception.names, ("a", "b"))

    def test_values_are_each_object_s_own(self):
        first, second = errors.Missing("a"), errors.Missing("b")
        self.assertEqual((first.name, second.name), ("a", "b"))

    def test_all_can_be_shown(self):
        for refusal in one_of_each():
            self.assertIsInstance(str(refusal), str)

"""The errors of the interface: their classes and their fields."""

import copy
import unittest

from fencerow import errors
from fencerow.errors import BadChoice, BadSeen, BadText, FenceError, NothingDone, TooMuch

FIVE = (BadText, BadChoice, TooMuch, BadSeen, NothingDone)
CHOICES = (0, 7, -1, 10 ** 6000, True, False, None, "", "0", [], [0, [1]], (2,), {"a": 1}, object())


def made():
    return (BadText(1), BadChoice(1), TooMuch(), BadSeen("done"), NothingDone())


class Classes(unittest.TestCase):
    def test_fence_error_stands_straight_under_value_error(self):
        self.assertEqual(FenceError.__bases__, (ValueError,))

    def test_the_five_stand_straight_under_fence_error(self):
        for one in FIVE:
            self.assertEqual(one.__bases__, (FenceError,), one)

    def test_each_is_a_fence_error_and_none_of_the_four_others(self):
        for error, own in zip(made(), FIVE, strict=True):
            self.assertIsInstance(error, FenceError)
            self.assertIsInstance(error, ValueError)
            self.assertEqual([one for one in FIVE if isinstance(error, one)], [own])

    def test_there_are_just_these_six(self):
        classes = [value for value in vars(errors).values() if isinstance(value, type)]
        self.assertEqual(sorted(one.__name__ for one in classes),
                         sorted(one.__name__ for one in FIVE + (FenceError,)))

    def test_each_is_caught_by_its_name_and_by_those_above(self):
        for error in made():
            for above in (type(error), FenceError, ValueError):
                with self.assertRaises(above) as caught:
                    raise error
                self.assertIs(caught.exception, error)

    def test_those_without_a_field_may_be_made_with_words(self):
        self.assertEqual(str(TooMuch("too many")), "too many")
        self.assertEqual(str(NothingDone("nothing")), "nothing")


class Fields(unittest.TestCase):
    def test_line(self):
        for line in (0, 1, 2, 12345):
            self.assertIs(BadText(line).line, line)

    def test_choice_is_just_what_was_told(self):
        for choice in CHOICES:
            self.assertIs(BadChoice(choice).choice, choice)

    def test_part(self):
        for part in ("done", "sources", "orders"):
            self.assertEqual(BadSeen(part).part, part)

    def test_the_field_is_there_when_the_error_is_caught(self):
        for choice in CHOICES:
            with self.assertRaises(BadChoice) as caught:
                raise BadChoice(choice)
            self.assertIs(caught.exception.choice, choice)

    def test_each_object_has_a_field_of_its_own(self):
        pairs = ((BadText(3), BadText(4), "line"), (BadChoice([1]), BadChoice(None), "choice"),
                 (BadSeen("done"), BadSeen("orders"), "part"))
        for first, second, field in pairs:
            self.assertNotEqual(getattr(first, field), getattr(second, field))
            self.assertFalse(hasattr(type(first), field))

    def test_a_copy_has_the_field_too(self):
        self.assertEqual(copy.copy(BadText(3)).line, 3)
        self.assertEqual(copy.copy(BadChoice([3])).choice, [3])
        self.assertEqual(copy.copy(BadSeen("orders")).part, "orders")

    def test_each_has_words(self):
        for error in (BadText(3), BadSeen("orders"), *[BadChoice(choice) for choice in CHOICES]):
            self.assertTrue(str(error))

    def test_a_choice_that_was_told_is_not_changed(self):
        choice = [0, [1]]
        str(BadChoice(choice))
        repr(BadChoice(choice))
        self.assertEqual(choice, [0, [1]])


if __name__ == "__main__":
    unittest.main()

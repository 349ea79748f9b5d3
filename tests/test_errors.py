"""The refusals: point 2 and pastlay/errors.py in the interface."""

import inspect
import unittest

from pastlay import errors
from pastlay.errors import NoText, PastError, Witnessed

OF_A_NUMBER = ["NoText", "Witnessed"]
OF_A_TEXT = [
    "BadStroke", "NoSlot", "NoStroke", "NoMoment", "NoPlace", "BadLook", "BadWish", "BadLaying", "BadPrices", "NoColour",
    "Several", "Full", "BadName", "Twice", "NoName", "NoHand", "NoWish", "NoMark", "BadDeed", "NoRow",
]
ALL = OF_A_NUMBER + OF_A_TEXT


class Refusals(unittest.TestCase):
    def test_the_list_is_whole_and_holds_nothing_else(self):
        found = [name for name, thing in vars(errors).items() if inspect.isclass(thing)]
        self.assertEqual(sorted(found), sorted(ALL + ["PastError"]))

    def test_each_is_defined_in_this_file(self):
        for name in ALL + ["PastError"]:
            refusal = getattr(errors, name)
            self.assertEqual((refusal.__module__, refusal.__name__), ("pastlay.errors", name))

    def test_past_error_stands_right_under_value_error(self):
        self.assertEqual(PastError.__bases__, (ValueError,))

    def test_each_stands_right_under_past_error(self):
        for name in ALL:
            self.assertEqual(getattr(errors, name).__bases__, (PastError,), name)

    def test_none_is_another_one(self):
        for name in ALL:
            for other in ALL:
                self.assertIs(issubclass(getattr(errors, name), getattr(errors, other)), name == other, (name, other))

    def test_past_error_is_none_of_them(self):
        for name in ALL:
            self.assertFalse(issubclass(PastError, getattr(errors, name)), name)

    def test_those_made_of_a_text(self):
        for name in OF_A_TEXT:
            refusal = getattr(errors, name)
            made = refusal("what is wrong")
            self.assertEqual(str(made), "what is wrong", name)
            with self.assertRaises(refusal):
                raise made

    def test_past_error_is_made_of_a_text(self):
        self.assertEqual(str(PastError("what is wrong")), "what is wrong")

    def test_those_with_a_field(self):
        for refusal in (NoText, Witnessed):
            for at in (0, 1, 19, 10 ** 40 - 1):
                self.assertEqual(refusal(at).at, at)
                self.assertEqual(refusal(at=at).at, at)
                self.assertIs(type(refusal(at).at), int)

    def test_those_with_a_field_are_raised_and_tell_a_text(self):
        for refusal in (NoText, Witnessed):
            with self.assertRaises(refusal) as caught:
                raise refusal(3)
            self.assertEqual(caught.exception.at, 3)
            self.assertIn("3", str(caught.exception))

    def test_a_field_is_asked_for(self):
        for refusal in (NoText, Witnessed):
            with self.assertRaises(TypeError):
                refusal()


if __name__ == "__main__":
    unittest.main()

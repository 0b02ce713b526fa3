"""The errors: one class for all, twenty-two directly under it, and the fields place and line."""

import copy
import unittest

from lanescounted import errors
from lanescounted.errors import BadStep, BadText, LaneError

WITH_TEXT = (
    "BadKind", "BadCount", "BadMark", "BadSize", "BadCounts", "BadHouse", "BadCase", "BadQuestion", "BadKey",
    "BadPair", "BadRenaming", "BadSpot", "TooMany", "NotEnough", "BadScheme", "NotWithin", "BadLog", "BadLane",
    "NothingToUndo", "BadCommand",
)
WITH_NUMBER = ("BadStep", "BadText")


def made(name):
    """Return an error of the class with this name."""
    return getattr(errors, name)(3 if name in WITH_NUMBER else "a text")


class ErrorClasses(unittest.TestCase):
    def test_there_are_twenty_two_directly_under_lane_error(self):
        self.assertEqual(len(WITH_TEXT + WITH_NUMBER), 22)
        self.assertEqual(LaneError.__bases__, (ValueError,))
        for name in WITH_TEXT + WITH_NUMBER:
            found = getattr(errors, name)
            self.assertEqual(found.__bases__, (LaneError,), name)
            self.assertEqual((found.__name__, found.__module__), (name, "lanescounted.errors"))

    def test_the_module_has_no_further_ones(self):
        found = [name for name in vars(errors) if isinstance(getattr(errors, name), type)]
        self.assertEqual(sorted(found), sorted(WITH_TEXT + WITH_NUMBER + ("LaneError",)))

    def test_each_is_a_lane_error_and_a_value_error_and_none_of_the_others(self):
        for name in WITH_TEXT + WITH_NUMBER:
            error = made(name)
            self.assertIsInstance(error, LaneError)
            self.assertIsInstance(error, ValueError)
            alike = [other for other in WITH_TEXT + WITH_NUMBER if isinstance(error, getattr(errors, other))]
            self.assertEqual(alike, [name])

    def test_lane_error_itself_is_none_of_them(self):
        error = LaneError("a text")
        for name in WITH_TEXT + WITH_NUMBER:
            self.assertNotIsInstance(error, getattr(errors, name))

    def test_each_can_be_raised_and_caught_under_each_of_its_names(self):
        for name in WITH_TEXT + WITH_NUMBER:
            for caught in (getattr(errors, name), LaneError, ValueError):
                with self.assertRaises(caught):
                    raise made(name)

    def test_those_with_a_text_keep_it(self):
        for name in WITH_TEXT:
            self.assertEqual(str(made(name)), "a text")


class Fields(unittest.TestCase):
    def test_by_position(self):
        self.assertEqual(BadStep(0).place, 0)
        self.assertEqual(BadStep(200).place, 200)
        self.assertEqual(BadText(0).line, 0)
        self.assertEqual(BadText(7).line, 7)

    def test_by_name(self):
        self.assertEqual(BadStep(place=4).place, 4)
        self.assertEqual(BadText(line=5).line, 5)

    def test_two_made_one_after_another_keep_their_own(self):
        first, second = BadStep(1), BadStep(place=2)
        third, fourth = BadText(line=3), BadText(4)
        self.assertEqual((first.place, second.place, third.line, fourth.line), (1, 2, 3, 4))

    def test_the_field_is_set_on_the_object(self):
        self.assertEqual(vars(BadStep(6)), {"place": 6})
        self.assertEqual(vars(BadText(6)), {"line": 6})
        self.assertFalse(hasattr(BadStep, "place"))
        self.assertFalse(hasattr(BadText, "line"))

    def test_each_has_its_own_field_alone(self):
        self.assertFalse(hasattr(BadStep(1), "line"))
        self.assertFalse(hasattr(BadText(1), "place"))

    def test_the_field_is_there_when_the_error_is_caught(self):
        with self.assertRaises(LaneError) as caught:
            raise BadStep(9)
        self.assertEqual(caught.exception.place, 9)
        self.assertEqual(copy.copy(caught.exception).place, 9)

    def test_the_number_has_to_be_given(self):
        for found in (BadStep, BadText):
            with self.assertRaises(TypeError):
                found()
            with self.assertRaises(TypeError):
                found(1, 2)


if __name__ == "__main__":
    unittest.main()

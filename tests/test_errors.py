"""The section allout/errors.py of the interface."""

import unittest

from allout import errors

PLAIN = (
    "BadPlan", "FaultyCondition", "NoSuchElement", "NothingToAvoid", "NotPresent", "NotARaise",
    "TooGreat", "NoSuchMeasure", "AlreadyInstalled", "TooManyChanges", "TooManyEditions",
)
OBSTACLE = ("value", "door", 1, "width")
WITH_FIELD = (
    ("FaultyLine", "line", 3),
    ("NoUpgrade", "obstacle", OBSTACLE),
    ("TooManyReasons", "count", 301),
    ("TooManyMinutes", "count", 41),
)
ALL = PLAIN + tuple(name for name, _, _ in WITH_FIELD)


class ErrorsTest(unittest.TestCase):
    def test_base_class_is_a_value_error(self):
        self.assertEqual(errors.HouseError.__bases__, (ValueError,))

    def test_every_class_is_directly_under_the_base_class(self):
        for name in ALL:
            with self.subTest(name):
                self.assertEqual(getattr(errors, name).__bases__, (errors.HouseError,))

    def test_every_class_is_defined_in_its_file(self):
        for name in ALL + ("HouseError",):
            with self.subTest(name):
                self.assertEqual(getattr(errors, name).__module__, "allout.errors")

    def test_classes_without_fields_are_made_without_arguments(self):
        for name in PLAIN:
            with self.subTest(name):
                error = getattr(errors, name)()
                self.assertEqual(vars(error), {})
                self.assertEqual(error.args, ())

    def test_classes_with_a_field_are_made_with_it(self):
        for name, field, value in WITH_FIELD:
            with self.subTest(name):
                self.assertEqual(vars(getattr(errors, name)(value)), {field: value})

    def test_all_are_caught_as_the_base_class(self):
        for name, _, value in WITH_FIELD:
            with self.subTest(name), self.assertRaises(errors.HouseError):
                raise getattr(errors, name)(value)
        for name in PLAIN:
            with self.subTest(name), self.assertRaises(errors.HouseError):
                raise getattr(errors, name)()


if __name__ == "__main__":
    unittest.main()

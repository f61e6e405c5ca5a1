"""Tests of [9] and [11]: the exceptions and their fields."""

import unittest

from hungparts import errors
from tests.helper import FIELDS, Case, every_value


class TestErrors(Case):

    def test_parts_error_is_a_value_error(self):
        self.assertEqual(errors.PartsError.__bases__, (ValueError,))

    def test_each_class_stands_directly_under_parts_error(self):
        for name in FIELDS:
            self.assertEqual(getattr(errors, name).__bases__, (errors.PartsError,), name)

    def test_each_class_is_defined_in_the_file(self):
        for name in ["PartsError", *FIELDS]:
            self.assertEqual(getattr(errors, name).__module__, "hungparts.errors")
            self.assertEqual(getattr(errors, name).__name__, name)

    def test_there_are_no_other_classes(self):
        found = [name for name, value in vars(errors).items() if isinstance(value, type)]
        self.assertEqual(sorted(found), sorted(["PartsError", *FIELDS]))

    def test_the_field_is_what_was_passed_by_position(self):
        for name, field in FIELDS.items():
            if field is not None:
                for value in every_value():
                    error = getattr(errors, name)(value)
                    self.assertEqual(list(vars(error)), [field])
                    self.assertIs(getattr(error, field), value)

    def test_the_field_may_be_passed_by_its_name(self):
        for name, field in FIELDS.items():
            if field is not None:
                self.assertEqual(getattr(getattr(errors, name)(**{field: 5}), field), 5)

    def test_the_field_is_no_copy(self):
        value = [1, {"a": 2}]
        error = errors.InvalidText(value)
        value.append(3)
        self.assertEqual(error.value, [1, {"a": 2}, 3])

    def test_a_class_with_a_field_is_made_with_one_value(self):
        for name, field in FIELDS.items():
            if field is not None:
                self.assertRaises(TypeError, getattr(errors, name))
                self.assertRaises(TypeError, getattr(errors, name), 1, 2)

    def test_a_class_without_fields_is_made_with_none(self):
        for name, field in FIELDS.items():
            if field is None:
                self.assertEqual(vars(getattr(errors, name)()), {})

    def test_they_are_raised_and_caught_as_value_errors(self):
        for name, field in FIELDS.items():
            values = [] if field is None else [(1, 2)]
            with self.assertRaises(ValueError) as caught:
                raise getattr(errors, name)(*values)
            self.assertIs(type(caught.exception), getattr(errors, name))


if __name__ == "__main__":
    unittest.main()

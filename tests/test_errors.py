"""Points [4] and [11]."""

import unittest

from helper import any_values
from staffhome import errors

FIELDS = {
    "NoCommand": ["line"],
    "NoLine": ["fault"],
    "NoMove": ["index"],
    "NoText": ["line", "column"],
    "NoTrain": ["name"],
    "NoWay": ["reason"],
    "Nothing": [],
    "TooMany": ["most"],
    "Used": ["name"],
    "Wrong": ["place"],
}


class Errors(unittest.TestCase):
    def made(self, name, things):
        return getattr(errors, name)(*things)

    def test_each_is_of_its_own_class_only(self):
        for name, fields in FIELDS.items():
            error = self.made(name, [0 for _ in fields])
            self.assertIs(type(error), getattr(errors, name))
            for other in FIELDS:
                self.assertIs(isinstance(error, getattr(errors, other)), other == name, (name, other))

    def test_each_is_a_staff_error_and_a_value_error(self):
        self.assertEqual(errors.StaffError.__bases__, (ValueError,))
        for name in FIELDS:
            self.assertEqual(getattr(errors, name).__bases__, (errors.StaffError,))

    def test_the_base_is_none_of_the_others(self):
        error = errors.StaffError()
        self.assertIsInstance(error, ValueError)
        for name in FIELDS:
            self.assertNotIsInstance(error, getattr(errors, name))

    def test_each_can_be_raised_and_caught(self):
        for name, fields in FIELDS.items():
            for kind in (getattr(errors, name), errors.StaffError, ValueError):
                error = self.made(name, [None for _ in fields])
                with self.assertRaises(kind) as caught:
                    raise error
                self.assertIs(caught.exception, error)

    def test_fields_are_the_very_objects(self):
        for name, fields in FIELDS.items():
            for thing in any_values():
                things = [[thing], thing][:len(fields)] if len(fields) == 2 else [thing][:len(fields)]
                shown = repr(things)
                error = self.made(name, things)
                self.assertEqual(sorted(vars(error)), sorted(fields))
                for field, worth in zip(fields, things):
                    self.assertIs(getattr(error, field), worth, (name, field))
                self.assertEqual(repr(things), shown)

    def test_fields_are_not_copies(self):
        rows = ["a"]
        error = errors.NoLine(rows)
        rows.append("b")
        self.assertIs(error.fault, rows)
        self.assertEqual(error.fault, ["a", "b"])

    def test_two_of_a_class_are_apart(self):
        one, other = errors.NoText(1, 2), errors.NoText(3, 4)
        self.assertEqual((one.line, one.column, other.line, other.column), (1, 2, 3, 4))

    def test_just_these_arguments(self):
        for name, fields in FIELDS.items():
            with self.assertRaises(TypeError):
                self.made(name, [0 for _ in fields] + [0])
            if fields:
                with self.assertRaises(TypeError):
                    self.made(name, [0 for _ in fields][1:])


if __name__ == "__main__":
    unittest.main()

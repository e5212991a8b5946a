import unittest

from affinewalk.errors import InvalidPath, InvalidStep, InvalidText, NothingLeft, OutOfRange, TooLong, UnknownName
from tests.support import any_values

ERRORS = [
    (InvalidText, ValueError, ["line"]),
    (InvalidStep, ValueError, ["reason"]),
    (InvalidPath, ValueError, ["index", "reason"]),
    (UnknownName, KeyError, ["name"]),
    (OutOfRange, IndexError, ["value"]),
    (NothingLeft, LookupError, ["action"]),
    (TooLong, OverflowError, ["limit"]),
]


class ErrorsTest(unittest.TestCase):
    def test_each_stands_directly_below_its_built_in_class(self):
        for error, above, _ in ERRORS:
            self.assertEqual(error.__bases__, (above,))
            self.assertEqual(error.__module__, "affinewalk.errors")

    def test_none_is_an_instance_of_another(self):
        for error, _, fields in ERRORS:
            made = error(*[0 for _ in fields])
            for other, _, _ in ERRORS:
                self.assertEqual(isinstance(made, other), other is error)

    def test_fields_by_position_and_by_name(self):
        for error, _, fields in ERRORS:
            values = [f"value {k}" for k in range(len(fields))]
            named = dict(zip(fields, values))
            backwards = {field: named[field] for field in reversed(fields)}
            for made in (error(*values), error(**named), error(**backwards)):
                self.assertEqual([getattr(made, field) for field in fields], values)

    def test_position_and_name_together(self):
        made = InvalidPath(3, reason="node")
        self.assertEqual((made.index, made.reason), (3, "node"))

    def test_fields_may_have_any_value(self):
        for value in any_values() + [10 ** 9000, object(), ValueError("x"), 1.5, b"x"]:
            for error, _, fields in ERRORS:
                by_position = error(*[value for _ in fields])
                by_name = error(**{field: value for field in fields})
                for field in fields:
                    self.assertIs(getattr(by_position, field), value)
                    self.assertIs(getattr(by_name, field), value)

    def test_two_fields_are_not_confused(self):
        made = InvalidPath(None, [1])
        self.assertIs(made.index, None)
        self.assertEqual(made.reason, [1])

    def test_fields_are_required(self):
        for error, _, fields in ERRORS:
            self.assertRaises(TypeError, error)
            self.assertRaises(TypeError, error, *[0 for _ in range(len(fields) + 1)])

    def test_raised_and_caught_by_the_built_in_class(self):
        for error, above, fields in ERRORS:
            with self.assertRaises(above) as caught:
                raise error(*[7 for _ in fields])
            self.assertIs(type(caught.exception), error)

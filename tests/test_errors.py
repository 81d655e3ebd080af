"""Points [1] and [2], and the interface, on the errors."""

import unittest

from glueroom import errors

FIELDS = {
    "BadCount": ("what", "count"),
    "NoPerson": ("person",),
    "Twice": ("person",),
    "OtherCount": (),
    "NoStart": (),
    "NoQuestion": (),
    "NoAnswer": (),
    "NoName": ("name",),
    "NoRow": ("name",),
    "NoBack": (),
    "BadText": ("place",),
}

VALUES = {"what": "people", "count": -3, "person": 17, "name": "Bad name", "place": 2}


class TestErrors(unittest.TestCase):
    def test_base_derives_from_value_error(self):
        self.assertEqual(errors.RoomError.__bases__, (ValueError,))

    def test_each_derives_directly_from_the_base(self):
        for name in FIELDS:
            self.assertEqual(getattr(errors, name).__bases__, (errors.RoomError,), name)

    def test_fields_by_position(self):
        for name, fields in FIELDS.items():
            error = getattr(errors, name)(*[VALUES[field] for field in fields])
            self.assertEqual(vars(error), {field: VALUES[field] for field in fields}, name)

    def test_fields_by_keyword(self):
        for name, fields in FIELDS.items():
            error = getattr(errors, name)(**{field: VALUES[field] for field in fields})
            self.assertEqual(vars(error), {field: VALUES[field] for field in fields}, name)

    def test_told(self):
        for name, fields in FIELDS.items():
            error = getattr(errors, name)(*[VALUES[field] for field in fields])
            self.assertEqual(error.told(), "refused " + name.lower())

    def test_told_is_defined_in_each_class(self):
        for name in FIELDS:
            self.assertIn("told", vars(getattr(errors, name)), name)

    def test_each_can_be_raised_and_caught_as_the_base(self):
        for name, fields in FIELDS.items():
            with self.assertRaises(errors.RoomError):
                raise getattr(errors, name)(*[VALUES[field] for field in fields])

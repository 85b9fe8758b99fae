"""Point 2 and the section strewfar/errors.py."""

import unittest

from strewfar import errors

UNDER_STREW_ERROR = {
    "InvalidPlace": "place",
    "InvalidBlock": "path",
    "InvalidName": "name",
    "DuplicateName": "name",
    "CapacityExceeded": "capacity",
    "Circular": "name",
    "InUse": "name",
    "TooLong": "limit",
    "TooDeep": "limit",
    "TooMany": "limit",
    "Overload": "load",
    "Tangled": "index",
    "InvalidBeat": "beat",
    "InvalidCount": "number",
    "WrongDimension": "given",
    "ParseError": "position",
    "InvalidCommand": "first",
}
UNDER_NOT_FOUND = {"UnknownName": "name", "UnknownWalker": "index"}
FIELDS = {**UNDER_STREW_ERROR, **UNDER_NOT_FOUND}


class Bases(unittest.TestCase):
    def test_two_bases_derive_directly_from_errors_of_python(self):
        self.assertEqual(errors.StrewError.__bases__, (ValueError,))
        self.assertEqual(errors.NotFound.__bases__, (LookupError,))

    def test_errors_under_strew_error(self):
        for name in UNDER_STREW_ERROR:
            with self.subTest(name=name):
                self.assertEqual(getattr(errors, name).__bases__, (errors.StrewError,))

    def test_errors_under_not_found(self):
        for name in UNDER_NOT_FOUND:
            with self.subTest(name=name):
                self.assertEqual(getattr(errors, name).__bases__, (errors.NotFound,))

    def test_nothing_left_derives_from_neither(self):
        self.assertEqual(errors.NothingLeft.__bases__, (IndexError,))
        self.assertFalse(issubclass(errors.NothingLeft, (errors.StrewError, errors.NotFound)))

    def test_the_bases_have_no_common_errors(self):
        self.assertFalse(issubclass(errors.NotFound, ValueError))
        self.assertFalse(issubclass(errors.StrewError, LookupError))

    def test_no_other_errors(self):
        found = sorted(name for name, thing in vars(errors).items() if isinstance(thing, type))
        self.assertEqual(found, sorted([*FIELDS, "StrewError", "NotFound", "NothingLeft"]))


class Fields(unittest.TestCase):
    def test_each_error_has_its_field_and_its_tag(self):
        for name, field in FIELDS.items():
            for value in (7, "a", (1, 2), None):
                with self.subTest(name=name, value=value):
                    error = getattr(errors, name)(value)
                    self.assertEqual(getattr(error, field), value)
                    self.assertEqual(error.tag, name)

    def test_each_error_has_no_other_field(self):
        for name, field in FIELDS.items():
            with self.subTest(name=name):
                error = getattr(errors, name)(1)
                self.assertEqual(sorted(vars(error)), sorted([field, "tag"]))

    def test_nothing_left_has_its_tag_only(self):
        self.assertEqual(vars(errors.NothingLeft()), {"tag": "NothingLeft"})

    def test_errors_are_set_when_created(self):
        for name, field in FIELDS.items():
            with self.subTest(name=name):
                first = getattr(errors, name)(1)
                second = getattr(errors, name)(2)
                self.assertEqual((getattr(first, field), getattr(second, field)), (1, 2))

    def test_a_field_of_many_digits_can_be_shown(self):
        # Python refuses to write an integer of more than 4300 digits.
        for error in (errors.InvalidBeat(-(10 ** 5000)), errors.InvalidPlace((10 ** 5000,))):
            self.assertTrue(str(error))
            self.assertTrue(repr(error))

    def test_each_error_can_be_raised_and_caught_by_its_base(self):
        for name in UNDER_STREW_ERROR:
            with self.subTest(name=name), self.assertRaises(errors.StrewError):
                raise getattr(errors, name)(1)
        for name in UNDER_NOT_FOUND:
            with self.subTest(name=name), self.assertRaises(errors.NotFound):
                raise getattr(errors, name)(1)
        with self.assertRaises(IndexError):
            raise errors.NothingLeft()


if __name__ == "__main__":
    unittest.main()

"""The errors of both parts of errors.py."""

import unittest

from lostplates import errors
from lostplates.errors import PlateError

ATTRIBUTES = {
    "InvalidHouse": ("part",),
    "InvalidOrder": (),
    "UnknownName": (),
    "InvalidBox": (),
    "InvalidLog": ("index",),
    "UnknownEntry": (),
    "NoOrder": (),
    "TooMany": (),
    "InvalidNumber": (),
    "InvalidHint": ("index",),
    "InvalidRow": (),
    "InvalidManners": ("index",),
    "InvalidEvent": ("index",),
    "InvalidLetters": ("index",),
    "InvalidBag": ("index",),
    "InvalidRows": ("index",),
    "TakenBox": (),
    "InvalidName": (),
    "UnknownKept": (),
    "InvalidOperation": ("index",),
    "Ended": (),
    "InvalidText": ("row", "word"),
    "DecodeError": ("offset",),
    "ScriptError": ("row",),
    "ExecutionFailed": ("row",),
    "TooLong": (),
}


class ErrorsTest(unittest.TestCase):
    def test_base_class(self):
        self.assertEqual(PlateError.__bases__, (ValueError,))
        self.assertEqual(PlateError.__module__, "lostplates.errors")

    def test_each_error_is_a_direct_subclass(self):
        for name in ATTRIBUTES:
            with self.subTest(name):
                error = getattr(errors, name)
                self.assertEqual(error.__bases__, (PlateError,))
                self.assertEqual(error.__module__, "lostplates.errors")

    def test_there_are_no_others(self):
        found = {cls.__name__ for cls in PlateError.__subclasses__() if cls.__module__ == "lostplates.errors"}
        self.assertEqual(found, set(ATTRIBUTES))

    def test_attributes(self):
        for name, attributes in ATTRIBUTES.items():
            with self.subTest(name):
                given = list(range(7, 7 + len(attributes)))
                error = getattr(errors, name)(*given)
                self.assertEqual(list(vars(error).items()), list(zip(attributes, given)))
                self.assertIsInstance(str(error), str)

    def test_errors_can_be_raised_and_caught_by_the_base_class(self):
        for name, attributes in ATTRIBUTES.items():
            with self.subTest(name), self.assertRaises(PlateError):
                raise getattr(errors, name)(*attributes)


if __name__ == "__main__":
    unittest.main()

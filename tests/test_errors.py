"""The exceptions of the package, both parts."""

import inspect
import unittest

from slowleaders import errors

ATTRIBUTES = {
    "InvalidRoad": ("index",),
    "InvalidCars": ("index",),
    "InvalidNumber": (),
    "UnknownCar": ("name",),
    "UnknownSection": ("index",),
    "InvalidName": (),
    "TooManyCars": (),
    "InvalidKind": (),
    "AlreadyOpen": (),
    "InvalidOperation": ("index",),
    "Contradiction": (),
    "InvalidArrivals": ("index",),
    "NotationError": ("row", "word"),
    "InvalidCount": (),
    "DecodeError": ("offset",),
}


class ErrorsTest(unittest.TestCase):
    def test_base_class(self):
        self.assertEqual(errors.RoadError.__bases__, (ValueError,))

    def test_direct_subclasses(self):
        for name in ATTRIBUTES:
            with self.subTest(name=name):
                self.assertEqual(getattr(errors, name).__bases__, (errors.RoadError,))

    def test_defined_in_this_file(self):
        for name in ["RoadError", *ATTRIBUTES]:
            self.assertEqual(getattr(errors, name).__module__, "slowleaders.errors")

    def test_no_other_classes(self):
        found = {name for name, _ in inspect.getmembers(errors, inspect.isclass)}
        self.assertEqual(found, {"RoadError", *ATTRIBUTES})

    def test_attributes(self):
        for name, attributes in ATTRIBUTES.items():
            with self.subTest(name=name):
                values = {attribute: 7 + at for at, attribute in enumerate(attributes)}
                error = getattr(errors, name)(**values)
                for attribute, value in values.items():
                    self.assertEqual(getattr(error, attribute), value)
                with self.assertRaises(errors.RoadError):
                    raise error


if __name__ == "__main__":
    unittest.main()

"""Tests of the exceptions (the interface, tiltheap/errors.py)."""

import unittest

from tiltheap import errors

ATTRIBUTES = {
    "InvalidWord": ("index",),
    "InvalidTray": ("row", "column"),
    "UnknownMarble": ("marble",),
    "InvalidPlace": (),
    "InvalidNumber": (),
    "SameMarble": (),
    "AlreadyOpen": (),
    "InvalidTilt": (),
    "InvalidMarble": ("marble",),
    "InvalidOperation": ("index",),
    "Contradiction": (),
    "DrawingError": ("row", "column"),
    "InvalidCount": (),
    "DecodeError": ("offset",),
}


def defined_classes():
    return {name: value for name, value in vars(errors).items() if isinstance(value, type)}


class ErrorsTest(unittest.TestCase):
    def test_exactly_the_listed_classes_are_defined(self):
        self.assertEqual(set(defined_classes()), set(ATTRIBUTES) | {"TrayError"})

    def test_base_class_is_a_value_error(self):
        self.assertEqual(errors.TrayError.__bases__, (ValueError,))

    def test_all_others_are_direct_subclasses(self):
        for name in ATTRIBUTES:
            with self.subTest(name=name):
                self.assertEqual(getattr(errors, name).__bases__, (errors.TrayError,))

    def test_classes_are_defined_in_the_file_itself(self):
        for name, value in defined_classes().items():
            with self.subTest(name=name):
                self.assertEqual(value.__module__, "tiltheap.errors")

    def test_attributes_are_set_when_the_object_is_created(self):
        for name, attributes in ATTRIBUTES.items():
            if not attributes:
                continue
            with self.subTest(name=name):
                values = tuple(range(3, 3 + len(attributes)))
                error = getattr(errors, name)(*values)
                self.assertEqual(vars(error), dict(zip(attributes, values)))

    def test_classes_without_attributes_take_a_message(self):
        for name, attributes in ATTRIBUTES.items():
            if attributes:
                continue
            with self.subTest(name=name):
                error = getattr(errors, name)("told")
                self.assertEqual(vars(error), {})
                self.assertEqual(str(error), "told")

    def test_all_can_be_raised_and_caught_as_the_base_class(self):
        for name, attributes in ATTRIBUTES.items():
            with self.subTest(name=name):
                arguments = [0] * len(attributes) or ["told"]
                with self.assertRaises(errors.TrayError) as caught:
                    raise getattr(errors, name)(*arguments)
                self.assertNotEqual(str(caught.exception), "")

    def test_a_marble_may_be_any_value(self):
        endless = []
        endless.append(endless)
        for marble in (None, True, 5, 10 ** 5000, "", "ab", ("a",), endless):
            for name in ("UnknownMarble", "InvalidMarble"):
                error = getattr(errors, name)(marble)
                self.assertIs(error.marble, marble)


if __name__ == "__main__":
    unittest.main()

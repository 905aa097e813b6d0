"""The exceptions, their base class and their attributes."""

import unittest

from rowdominoes import errors

ATTRIBUTES = {
    "InvalidRow": ("index",),
    "UnknownStone": (),
    "InvalidSide": (),
    "InvalidNumber": (),
    "AlreadyFallen": ("index",),
    "OtherRow": (),
    "AlreadyOpen": (),
    "NotStanding": ("stone",),
    "NotLying": ("stone",),
    "InvalidOperation": ("index",),
    "Contradiction": (),
    "NotationError": ("line", "word"),
    "InvalidCount": (),
    "DecodeError": ("offset",),
}


class ErrorsTest(unittest.TestCase):

    def test_base_class_is_a_value_error(self):
        self.assertEqual(errors.StoneError.__bases__, (ValueError,))

    def test_all_others_are_direct_subclasses(self):
        for name in ATTRIBUTES:
            with self.subTest(name=name):
                self.assertEqual(getattr(errors, name).__bases__, (errors.StoneError,))

    def test_there_are_no_other_classes(self):
        classes = {name for name, value in vars(errors).items() if isinstance(value, type)}
        self.assertEqual(classes, set(ATTRIBUTES) | {"StoneError"})

    def test_classes_are_defined_in_this_file(self):
        for name in ATTRIBUTES:
            self.assertEqual(getattr(errors, name).__module__, "rowdominoes.errors")

    def test_attributes_are_set_when_created(self):
        for name, attributes in ATTRIBUTES.items():
            values = list(range(7, 7 + len(attributes)))
            with self.subTest(name=name):
                error = getattr(errors, name)(*values)
                self.assertEqual([getattr(error, attribute) for attribute in attributes], values)

    def test_attributes_may_be_given_by_name(self):
        for name, attributes in ATTRIBUTES.items():
            values = {attribute: place for place, attribute in enumerate(attributes, 3)}
            with self.subTest(name=name):
                self.assertEqual(vars(getattr(errors, name)(**values)), values)


if __name__ == "__main__":
    unittest.main()

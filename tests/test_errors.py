"""The errors of the interface."""

import unittest

from byteshape import errors

PLAIN = ("InvalidShape", "InvalidFile", "InvalidQuestion", "NothingToUndo", "NothingToRedo")
WITH_ATTRIBUTE = (
    ("InvalidValue", "name", "x"),
    ("InvalidNotation", "line", 3),
    ("UnknownName", "name", "Not A Name\n"),
    ("NotRead", "place", 0),
    ("TooMany", "limit", 2000),
    ("InvalidCertificate", "line", 1),
    ("NameInUse", "name", ""),
)


class ErrorsTest(unittest.TestCase):
    def test_base(self):
        self.assertEqual(errors.ByteshapeError.__bases__, (ValueError,))

    def test_plain_classes(self):
        for word in PLAIN:
            made = getattr(errors, word)
            self.assertEqual(made.__bases__, (errors.ByteshapeError,), word)
            self.assertIsInstance(made(), ValueError)

    def test_classes_with_an_attribute(self):
        for word, attribute, value in WITH_ATTRIBUTE:
            made = getattr(errors, word)
            self.assertEqual(made.__bases__, (errors.ByteshapeError,), word)
            error = made(value)
            self.assertEqual(getattr(error, attribute), value)
            self.assertEqual(vars(error), {attribute: value})

    def test_classes_are_defined_there(self):
        for word in PLAIN + tuple(row[0] for row in WITH_ATTRIBUTE) + ("ByteshapeError",):
            self.assertEqual(getattr(errors, word).__module__, "byteshape.errors")

    def test_package_defines_nothing(self):
        with open("byteshape/__init__.py", encoding="utf-8") as source:
            self.assertEqual(source.read(), "")


if __name__ == "__main__":
    unittest.main()

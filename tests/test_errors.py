"""Point 3 and the interface of peershelf.errors."""

import unittest

from peershelf import errors

WITH_NAME = ("NoVersion", "NotLocked")
WITH_PATH = ("Cycle", "MissingPeer", "InvalidPeer", "NoSuchPath")
PLAIN = ("BadVersion", "BadRange", "BadPackages", "BadProject", "BadLock", "TooMany", "AlreadyPublished",
         "NotPublished", "NoSuchDependency", "DiskFull")
ALL = WITH_NAME + WITH_PATH + PLAIN


class ErrorClasses(unittest.TestCase):
    def test_shelf_error_is_under_value_error(self):
        self.assertTrue(issubclass(errors.ShelfError, ValueError))
        self.assertIsNot(errors.ShelfError, ValueError)

    def test_each_is_under_shelf_error(self):
        for name in ALL:
            with self.subTest(name):
                error = getattr(errors, name)
                self.assertTrue(issubclass(error, errors.ShelfError))
                self.assertIsNot(error, errors.ShelfError)

    def test_none_is_under_another(self):
        for name in ALL:
            for other in ALL:
                if name != other:
                    self.assertFalse(issubclass(getattr(errors, name), getattr(errors, other)), (name, other))

    def test_each_is_defined_here(self):
        for name in ALL + ("ShelfError",):
            error = getattr(errors, name)
            self.assertEqual((error.__module__, error.__name__), ("peershelf.errors", name))

    def test_name_and_wanted(self):
        for name in WITH_NAME:
            with self.subTest(name):
                error = getattr(errors, name)("core", "^1.0.0")
                self.assertEqual((error.name, error.wanted), ("core", "^1.0.0"))
                error = getattr(errors, name)(wanted="*", name="plug")
                self.assertEqual((error.name, error.wanted), ("plug", "*"))

    def test_path(self):
        for name in WITH_PATH:
            with self.subTest(name):
                self.assertEqual(getattr(errors, name)(("left", "core")).path, ("left", "core"))
                self.assertEqual(getattr(errors, name)(path=()).path, ())

    def test_plain_ones_take_a_message_or_none(self):
        for name in PLAIN + ("ShelfError",):
            with self.subTest(name):
                self.assertIsInstance(getattr(errors, name)(), ValueError)
                self.assertEqual(str(getattr(errors, name)("why")), "why")

    def test_fields_are_in_the_message(self):
        self.assertIn("core", str(errors.NoVersion("core", "^1.0.0")))
        self.assertIn("^1.0.0", str(errors.NotLocked("core", "^1.0.0")))
        self.assertIn("left", str(errors.Cycle(("left", "core"))))

    def test_caught_as_shelf_error_and_as_value_error(self):
        for base in (errors.ShelfError, ValueError):
            with self.assertRaises(base):
                raise errors.NoVersion("core", "*")

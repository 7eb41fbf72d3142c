"""Promise [23]: the errors, their base classes, tags and attributes."""

import unittest

from earlywrite import errors

PLAIN = ["InvalidBase", "InvalidDigits", "InvalidRow", "InvalidPoints", "InvalidDelay", "Incompatible",
         "OutOfRange", "NotRedundant", "InvalidItem"]
WITH_ATTRIBUTE = {
    "InvalidText": "position", "InvalidMachine": "state", "LimitReached": "limit", "CircularName": "name",
    "InvalidName": "name", "DuplicateName": "name", "NameInUse": "user", "WrongKind": "name",
    "InvalidCommand": "position", "InvalidDocument": "line",
}
NUMBERS = ("position", "state", "limit", "line")


class ErrorsTest(unittest.TestCase):
    def test_all_classes_are_listed_here(self):
        found = {name for name, value in vars(errors).items() if isinstance(value, type)}
        listed = set(PLAIN) | set(WITH_ATTRIBUTE) | {"EarlyError", "UndefinedName", "EmptyHistory"}
        self.assertEqual(found, listed)
        self.assertEqual(len(listed), 22)

    def test_early_error(self):
        self.assertEqual(errors.EarlyError.__bases__, (ValueError,))
        self.assertEqual(errors.EarlyError().tag, "EarlyError")

    def test_errors_without_attributes(self):
        for name in PLAIN:
            with self.subTest(name):
                error_class = getattr(errors, name)
                self.assertEqual(error_class.__bases__, (errors.EarlyError,))
                self.assertEqual(vars(error_class()), {"tag": name})
                self.assertRaises(TypeError, error_class, 1)

    def test_errors_with_one_attribute(self):
        for name, attribute in WITH_ATTRIBUTE.items():
            with self.subTest(name):
                error_class = getattr(errors, name)
                value = 7 if attribute in NUMBERS else "half"
                self.assertEqual(error_class.__bases__, (errors.EarlyError,))
                self.assertEqual(vars(error_class(value)), {"tag": name, attribute: value})
                self.assertEqual(vars(error_class(**{attribute: value})), {"tag": name, attribute: value})
                self.assertRaises(TypeError, error_class)

    def test_undefined_name(self):
        self.assertEqual(errors.UndefinedName.__bases__, (LookupError,))
        self.assertEqual(vars(errors.UndefinedName("half")), {"tag": "UndefinedName", "name": "half"})
        self.assertEqual(vars(errors.UndefinedName(name="half")), {"tag": "UndefinedName", "name": "half"})
        self.assertRaises(TypeError, errors.UndefinedName)

    def test_empty_history(self):
        self.assertEqual(errors.EmptyHistory.__bases__, (IndexError,))
        self.assertEqual(vars(errors.EmptyHistory()), {"tag": "EmptyHistory"})
        self.assertRaises(TypeError, errors.EmptyHistory, 1)

    def test_errors_are_caught_by_their_base_classes(self):
        with self.assertRaises(ValueError):
            raise errors.LimitReached(12)
        with self.assertRaises(errors.EarlyError):
            raise errors.InvalidMachine(-1)
        for error in (errors.UndefinedName("half"), errors.EmptyHistory()):
            self.assertNotIsInstance(error, errors.EarlyError)


if __name__ == "__main__":
    unittest.main()

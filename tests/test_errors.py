"""Promise [23]: the errors, their base classes, tags and attributes."""

import unittest

from earlywrite import errors
from earlywrite.delays import decide
from earlywrite.digits import DigitSet
from earlywrite.documents import parse_workshop
from earlywrite.expressions import evaluate, parse_expression
from earlywrite.lines import LineFunction, add_lines, straight
from earlywrite.machines import Machine
from earlywrite.rationals import fraction
from earlywrite.workshop import Workshop
from helpers import BINARY, BITS, line, shop_with

PLAIN = ["InvalidBase", "InvalidDigits", "InvalidRow", "InvalidPoints", "InvalidDelay", "Incompatible",
         "OutOfRange", "NotRedundant", "InvalidItem"]
WITH_ATTRIBUTE = {
    "InvalidText": "position", "InvalidMachine": "state", "LimitReached": "limit", "CircularName": "name",
    "InvalidName": "name", "DuplicateName": "name", "NameInUse": "user", "WrongKind": "name",
    "InvalidCommand": "position", "InvalidDocument": "line",
}
NUMBERS = ("position", "state", "limit", "line")


class ErrorsTest(unittest.TestCase):
    def test_all_classes_are_listed_here(self):
        found = {name for name, value in vars(errors).items() if isinstance(value, type)}
        listed = set(PLAIN) | set(WITH_ATTRIBUTE) | {"EarlyError", "UndefinedName", "EmptyHistory"}
        self.assertEqual(found, listed)
        self.assertEqual(len(listed), 22)

    def test_early_error(self):
        self.assertEqual(errors.EarlyError.__bases__, (ValueError,))
        self.assertEqual(errors.EarlyError().tag, "EarlyError")

    def test_errors_without_attributes(self):
        for name in PLAIN:
            with self.subTest(name):
                error_class = getattr(errors, name)
                self.assertEqual(error_class.__bases__, (errors.EarlyError,))
                self.assertEqual(vars(error_class()), {"tag": name})
                self.assertRaises(TypeError, error_class, 1)

    def test_errors_with_one_attribute(self):
        for name, attribute in WITH_ATTRIBUTE.items():
            with self.subTest(name):
                error_class = getattr(errors, name)
                value = 7 if attribute in NUMBERS else "half"
                self.assertEqual(error_class.__bases__, (errors.EarlyError,))
                self.assertEqual(vars(error_class(value)), {"tag": name, attribute: value})
                self.assertEqual(vars(error_class(**{attribute: value})), {"tag": name, attribute: value})
                self.assertRaises(TypeError, error_class)

    def test_undefined_name(self):
        self.assertEqual(errors.UndefinedName.__bases__, (LookupError,))
        self.assertEqual(vars(errors.UndefinedName("half")), {"tag": "UndefinedName", "name": "half"})
        self.assertEqual(vars(errors.UndefinedName(name="half")), {"tag": "UndefinedName", "name": "half"})
        self.assertRaises(TypeError, errors.UndefinedName)

    def test_empty_history(self):
        self.assertEqual(errors.EmptyHistory.__bases__, (IndexError,))
        self.assertEqual(vars(errors.EmptyHistory()), {"tag": "EmptyHistory"})
        self.assertRaises(TypeError, errors.EmptyHistory, 1)

    def test_errors_are_caught_by_their_base_classes(self):
        with self.assertRaises(ValueError):
            raise errors.LimitReached(12)
        with self.assertRaises(errors.EarlyError):
            raise errors.InvalidMachine(-1)
        for error in (errors.UndefinedName("half"), errors.EmptyHistory()):
            self.assertNotIsInstance(error, errors.EarlyError)


class RaisedTest(unittest.TestCase):
    """Each error, raised by one simple call."""

    def calls(self):
        shop = shop_with()
        identity = straight((1, 1), (0, 1), (-1, 1), (1, 1))
        circle = [("ab", parse_expression("ab(x)"))]
        return {
            "InvalidBase": (DigitSet, 1, (0, 1)), "InvalidDigits": (DigitSet, 2, (0, 0)),
            "InvalidRow": (BINARY.value, (2,)), "InvalidPoints": (LineFunction, []),
            "InvalidText": (parse_expression, "max(x, 2/4)"), "InvalidDelay": (decide, identity, BINARY, BINARY, 10),
            "InvalidMachine": (Machine, BINARY, BINARY, 0, [(0, [(0, 0), (0, 0), (0, 1)])]),
            "Incompatible": (add_lines, identity, line((0, 0), (1, 1))), "OutOfRange": (fraction, 1, 0),
            "NotRedundant": (decide, line((0, 0), (1, 1)), BITS, BITS, 0),
            "LimitReached": (decide, line((-1, 0), (0, 1), (1, 0)), BINARY, BINARY, 9),
            "CircularName": (evaluate, parse_expression("ab(x)"), (0, 1)), "InvalidName": (shop.define, "x", ()),
            "DuplicateName": (shop.define, "bin", ()), "NameInUse": (shop.delete, "half"),
            "WrongKind": (shop.machine, "bin"), "InvalidItem": (shop.define, "ab", ()),
            "InvalidCommand": (shop.batch, [("delete", "long"), ()]),
            "InvalidDocument": (parse_workshop, "set bin 2 -1 0 1\nfunction half 2/4*x\n"),
            "UndefinedName": (shop.item, "nope"), "EmptyHistory": (Workshop().undo,),
        }, {"CircularName": {"definitions": circle}, "LimitReached": {"limit": 1}}

    def test_each_error(self):
        attributes = {
            "InvalidText": {"position": 9}, "InvalidMachine": {"state": 0}, "LimitReached": {"limit": 1},
            "CircularName": {"name": "ab"}, "InvalidName": {"name": "x"}, "DuplicateName": {"name": "bin"},
            "NameInUse": {"user": "near"}, "WrongKind": {"name": "bin"}, "InvalidCommand": {"position": 1},
            "InvalidDocument": {"line": 1}, "UndefinedName": {"name": "nope"},
        }
        bases = {"UndefinedName": LookupError, "EmptyHistory": IndexError}
        calls, keywords = self.calls()
        self.assertEqual(sorted(calls), sorted([*PLAIN, *WITH_ATTRIBUTE, "UndefinedName", "EmptyHistory"]))
        for name, (call, *arguments) in calls.items():
            with self.subTest(name):
                with self.assertRaises(bases.get(name, ValueError)) as context:
                    call(*arguments, **keywords.get(name, {}))
                error = context.exception
                self.assertIs(error.__class__, getattr(errors, name))
                self.assertEqual(vars(error), {"tag": name, **attributes.get(name, {})})
                self.assertEqual(isinstance(error, errors.EarlyError), name not in bases)


if __name__ == "__main__":
    unittest.main()

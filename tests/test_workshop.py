"""Promise [18]: items by name, the errors of each command in their order, batches, undo and redo, clones."""

import itertools
import random
import unittest

from earlywrite.workshop import MAX_NAMES, Workshop
from helpers import EXAMPLE, caught, shop_with, told

# What the tests of wrong items refer to.
BASIS = [
    ("bin", ("set", 2, (-1, 0, 1))), ("same", ("set", 2, [1, 0, -1])), ("wide", ("set", 2, (-2, -1, 0, 1, 2))),
    ("bits", ("set", 2, (0, 1))), ("three", ("set", 3, (-2, -1, 0, 1, 2))), ("trits", ("set", 3, (0, 1, 2))),
    ("half", ("function", "1/2*x")), ("slow", ("writer", "half", "bin", "bin")),
    ("alike", ("writer", "half", "same", "same")), ("up", ("writer", "half", "bin", "wide")),
    ("down", ("writer", "half", "wide", "bin")), ("read", ("writer", "half", "bits", "bin")),
    ("both", ("pipe", ["up", "down"])),
]
LETTERS = "abcdefghijklmnopqrstuvwxyz"


def full_shop(first=()):
    """A workshop with 24 names, the first ones as given."""
    shop = shop_with(first)
    for letter in LETTERS[:MAX_NAMES - len(shop)]:
        shop.define("q" + letter, ("function", "x"))
    return shop


class ExamplesTest(unittest.TestCase):
    def setUp(self):
        self.shop = Workshop()
        self.shop.define("bin", ("set", 2, (-1, 0, 1)))
        self.shop.define("half", ("function", "1/2*x"))
        self.shop.define("slow", ("writer", "half", "bin", "bin"))

    def test_names_and_length(self):
        self.assertEqual([self.shop.names(), len(self.shop)], [["bin", "half", "slow"], 3])
        self.assertEqual(repr(self.shop), "Workshop(3 names)")

    def test_wrong_kind(self):
        self.assertEqual(caught(self.shop.define, "fast", ("writer", "bin", "bin", "bin")), ("WrongKind", "bin"))

    def test_redefine(self):
        self.assertEqual(caught(self.shop.redefine, "bin", ("set", 2, (0, 1))), ("NameInUse", "slow"))

    def test_delete(self):
        self.assertEqual(caught(self.shop.delete, "half"), ("NameInUse", "slow"))

    def test_batch(self):
        commands = [("delete", "slow"), ("define", "wide", ("pipe", ("slow",)))]
        self.assertEqual(caught(self.shop.batch, commands), ("UndefinedName", "slow"))

    def test_undo(self):
        self.shop.undo()
        self.assertEqual([self.shop.names(), self.shop.history()], [["bin", "half"], (2, 1)])

    def test_item(self):
        self.shop.define("all", ("set", 2, [2, 0, -2, 1, -1]))
        self.assertEqual(self.shop.item("all"), ("set", 2, (-2, -1, 0, 1, 2)))

    def test_the_empty_tuple(self):
        self.assertEqual(caught(self.shop.define, "ab", ()), ("InvalidItem",))


class ItemsTest(unittest.TestCase):
    def test_each_kind(self):
        shop = shop_with()
        self.assertEqual(len(shop), len(EXAMPLE))
        for name, item in EXAMPLE:
            self.assertEqual(shop.item(name), item)
        self.assertEqual(shop.names(), sorted([name for name, item in EXAMPLE]))

    def test_definitions_return_none(self):
        shop = Workshop()
        for name, item in EXAMPLE:
            self.assertIsNone(shop.define(name, item))

    def test_the_form_in_which_items_are_returned(self):
        shop = shop_with(BASIS)
        shop.define("many", ("set", 10, list(range(9, -10, -1))))
        shop.define("pipes", ("pipe", ["both", "slow", "both"]))
        self.assertEqual(shop.item("many"), ("set", 10, tuple(range(-9, 10))))
        self.assertEqual(shop.item("pipes"), ("pipe", ("both", "slow", "both")))
        self.assertEqual(shop.item("same"), ("set", 2, (-1, 0, 1)))
        for name in shop.names():
            for part in shop.item(name):
                self.assertNotIsInstance(part, list)

    def test_items_of_names_that_are_not_defined(self):
        shop = shop_with()
        for name in ("nope", "x", "", "BIN", "abs"):
            self.assertEqual(caught(shop.item, name), ("UndefinedName", name))

    def test_lists_that_are_changed_afterwards(self):
        shop, digits, parts = shop_with(BASIS), [1, -1, 0], ["up", "down"]
        before = len(shop)
        shop.define("mine", ("set", 2, digits))
        shop.define("route", ("pipe", parts))
        commands = [("define", "again", ("set", 2, digits)), ("redefine", "route", ("pipe", parts))]
        shop.batch(commands)
        digits.append(5)
        parts.clear()
        commands.clear()
        self.assertEqual(shop.item("mine"), ("set", 2, (-1, 0, 1)))
        self.assertEqual(shop.item("again"), ("set", 2, (-1, 0, 1)))
        self.assertEqual(shop.item("route"), ("pipe", ("up", "down")))
        self.assertEqual(len(shop), before + 3)

    def test_arguments_are_not_modified(self):
        shop, digits, parts = shop_with(BASIS), [1, -1, 0], ["up", "down"]
        commands = [("define", "ab", ("set", 2, digits)), ("define", "cd", ("pipe", parts)), ("delete", "cd")]
        shop.batch(commands)
        shop.redefine("ab", ("set", 2, digits))
        self.assertEqual((digits, parts), ([1, -1, 0], ["up", "down"]))
        self.assertEqual(commands, [("define", "ab", ("set", 2, digits)), ("define", "cd", ("pipe", parts)),
                                    ("delete", "cd")])


class DefineErrorsTest(unittest.TestCase):
    def setUp(self):
        self.shop = shop_with(BASIS)

    def check(self, error, name, item):
        before = told(self.shop)
        self.assertEqual(caught(self.shop.define, name, item), error)
        self.assertEqual(told(self.shop), before)

    def check_item(self, error, item):
        """The same error also if the item replaces a pipe that no other name needs."""
        self.check(error, "new", item)
        self.assertEqual(caught(self.shop.redefine, "both", item), error)
        self.assertEqual(caught(self.shop.batch, [("define", "new", item)]), error)

    def test_names(self):
        for name in ("ab", "abcdefgh", "maxx", "xx", "absx", "set", "pipe", "none"):
            shop = Workshop()
            shop.define(name, ("function", "x"))
            self.assertEqual(shop.names(), [name])
        for name in ("", "a", "x", "abcdefghi", "abs", "max", "min", "Ab", "a1", "a b", "ab ", "a-", "a_b", "\u00e4b"):
            self.check(("InvalidName", name), name, ("function", "x"))

    def test_a_wrong_name_comes_before_all_else(self):
        for item in ((), ("set",), ("set", 1, ()), ("function", "y"), ("writer", "no", "no", "no"), ("pipe", ())):
            self.check(("InvalidName", "abs"), "abs", item)
            self.check(("DuplicateName", "bin"), "bin", item)

    def test_duplicate_names(self):
        for name, item in BASIS:
            self.check(("DuplicateName", name), name, item)
        self.check(("DuplicateName", "half"), "half", ("set", 2, (0, 1)))

    def test_forms(self):
        for item in ((), ("sets", 2, (0, 1)), ("",), ("Set", 2, (0, 1)), ("set",), ("set", 2), ("set", 2, (0, 1), 3),
                     ("function",), ("function", "x", "x"), ("writer", "half", "bin"), ("writer",),
                     ("writer", "half", "bin", "bin", "bin"), ("pipe",), ("pipe", ("slow",), ("slow",)),
                     ("pipe", ()), ("pipe", []), ("pipe", ["slow"] * 7), ("pipe", ("slow",) * 7), ("names",),
                     ("define", "ab"), ("number", 1)):
            self.check_item(("InvalidItem",), item)

    def test_wrong_forms_come_before_wrong_contents(self):
        for item in (("set", 1, (0, 1), 0), ("function", "y", "x"), ("writer", "nope", "nope"),
                     ("pipe", ("nope",) * 7), ("writer", "nope", "bin", "bin", "bin")):
            self.check_item(("InvalidItem",), item)

    def test_numbers_of_parts(self):
        for many in range(1, 7):
            self.shop.define("p" + LETTERS[many], ("pipe", ["slow"] * many))

    def test_sets(self):
        for base in (1, 0, -2, 11, 10 ** 30 - 1):
            self.check_item(("InvalidBase",), ("set", base, (0, 1)))
            self.check_item(("InvalidBase",), ("set", base, (0, 0)))
        for base, digits in ((2, ()), (2, (1,)), (2, (0, 0, 1)), (3, (0, 1, 3)), (2, (0, 100)), (2, (-100, 0)),
                             (2, range(-12, 13)), (10, range(9)), (4, [0, 1, 2])):
            self.check_item(("InvalidDigits",), ("set", base, list(digits)))
        self.shop.define("ab", ("set", 2, list(range(-12, 12))))
        self.shop.define("cd", ("set", 2, (-99, 99)))

    def test_texts(self):
        for text, position in (("", 0), ("y", 0), ("(x+1)", 2), ("x ", 1), (" x", 0), ("max(x, 2/4)", 9), ("-0", 1),
                               ("abs(" * 12 + "x" + ")" * 12, 48), ("half(x", 6), ("1234567", 6), ("a(x)", 0)):
            self.check_item(("InvalidText", position), ("function", text))
        # The text is wrong at its end, and the names before are wrong, too.
        self.check_item(("InvalidText", 9), ("function", "(nope(x) "))
        self.check_item(("InvalidText", 12), ("function", "(bin(x) + 2/"))

    def test_names_in_texts_are_looked_at_in_ascending_order(self):
        for text, error in (("nope(x)", ("UndefinedName", "nope")), ("bin(x)", ("WrongKind", "bin")),
                            ("slow(x)", ("WrongKind", "slow")), ("both(x)", ("WrongKind", "both")),
                            ("new(x)", ("UndefinedName", "new")), ("(zz(x) + aa(x))", ("UndefinedName", "aa")),
                            ("(slow(x) + both(x))", ("WrongKind", "both")), ("zz(bin(x))", ("WrongKind", "bin")),
                            ("bin(aa(x))", ("UndefinedName", "aa")), ("half(nope(bin(x)))", ("WrongKind", "bin"))):
            self.check_item(error, ("function", text))

    def test_writers_with_all_faults_at_once(self):
        functions = {"half": None, "nope": "UndefinedName", "bin": "WrongKind", "slow": "WrongKind"}
        sets = {"bin": None, "three": None, "bits": None, "trits": None, "none": "UndefinedName", "half": "WrongKind",
                "slow": "WrongKind", "both": "WrongKind"}
        good = 0
        for called, read, write in itertools.product(functions, sets, sets):
            faults = [(kinds[name], name) for kinds, name in ((functions, called), (sets, read), (sets, write))
                      if kinds[name]]
            if not faults and (read in ("three", "trits")) != (write in ("three", "trits")):
                faults = [("Incompatible",)]
            if not faults and write in ("bits", "trits"):
                faults = [("NotRedundant",)]
            item = ("writer", called, read, write)
            if faults:
                self.check_item(faults[0], item)
            else:
                shop = self.shop.clone()
                shop.define("new", item)
                self.assertEqual(shop.item("new"), item)
                good += 1
        self.assertEqual(good, 4)

    def test_pipes_with_all_faults_at_once(self):
        reads = {"slow": "bin", "alike": "bin", "up": "bin", "down": "wide", "read": "bits", "both": "bin"}
        writes = {"slow": "bin", "alike": "bin", "up": "wide", "down": "bin", "read": "bin", "both": "bin"}
        good = 0
        for parts in itertools.product(["nope", "half", "bin", *reads], repeat=3):
            faults = [("UndefinedName" if part == "nope" else "WrongKind", part) for part in parts
                      if part not in reads]
            if not faults and [writes[part] for part in parts[:-1]] != [reads[part] for part in parts[1:]]:
                faults = [("Incompatible",)]
            if faults:
                self.check_item(faults[0], ("pipe", parts))
            else:
                shop = self.shop.clone()
                shop.define("new", ("pipe", parts))
                good += 1
        self.assertEqual(good, 69)

    def test_a_value_outside_of_the_interval_is_no_fault(self):
        self.shop.define("far", ("function", "100*x"))
        self.shop.define("out", ("writer", "far", "bin", "bin"))
        self.assertEqual(self.shop.item("out"), ("writer", "far", "bin", "bin"))


class LimitTest(unittest.TestCase):
    def test_the_twenty_fourth_and_the_twenty_fifth_name(self):
        self.assertEqual(MAX_NAMES, 24)
        shop = full_shop(BASIS)
        self.assertEqual((len(shop), repr(shop), shop.history()), (24, "Workshop(24 names)", (24, 0)))
        before = told(shop)
        for item in (("function", "x"), ("set", 2, (0, 1)), ("writer", "half", "bin", "bin"), ("pipe", ("slow",))):
            self.assertEqual(caught(shop.define, "new", item), ("LimitReached", 24))
        self.assertEqual(told(shop), before)

    def test_other_errors_come_first(self):
        shop = full_shop(BASIS)
        for error, name, item in ((("InvalidName", "x"), "x", ("function", "x")),
                                  (("DuplicateName", "bin"), "bin", ("function", "x")),
                                  (("InvalidItem",), "new", ()), (("InvalidItem",), "new", ("pipe", ())),
                                  (("InvalidBase",), "new", ("set", 1, ())),
                                  (("InvalidDigits",), "new", ("set", 2, ())),
                                  (("InvalidText", 0), "new", ("function", "")),
                                  (("UndefinedName", "new"), "new", ("function", "new(x)")),
                                  (("WrongKind", "bin"), "new", ("pipe", ("bin",))),
                                  (("Incompatible",), "new", ("writer", "half", "three", "bin")),
                                  (("Incompatible",), "new", ("pipe", ("up", "up"))),
                                  (("NotRedundant",), "new", ("writer", "half", "bin", "bits"))):
            self.assertEqual(caught(shop.define, name, item), error)
        self.assertEqual(shop.history(), (24, 0))

    def test_behind_a_deletion(self):
        shop = full_shop()
        shop.delete("qa")
        shop.define("new", ("function", "x"))
        self.assertEqual(caught(shop.define, "qa", ("function", "x")), ("LimitReached", 24))
        shop.undo()
        shop.define("qa", ("function", "x"))
        self.assertEqual(shop, full_shop())

    def test_in_a_batch(self):
        shop = full_shop()
        new = ("define", "new", ("function", "x"))
        self.assertEqual(caught(shop.batch, [new]), ("LimitReached", 24))
        self.assertEqual(caught(shop.batch, [new, ("delete", "qa")]), ("LimitReached", 24))
        self.assertEqual(shop, full_shop())
        shop.batch([("delete", "qa"), new])
        self.assertEqual((len(shop), "qa" in shop.names(), "new" in shop.names()), (24, False, True))
        self.assertEqual(caught(shop.batch, [("delete", "new"), new, ("define", "qa", ("function", "x"))]),
                         ("LimitReached", 24))

    def test_redefine_in_a_full_workshop(self):
        shop = full_shop()
        shop.redefine("qa", ("function", "qb(x)"))
        self.assertEqual((shop.item("qa"), len(shop)), (("function", "qb(x)"), 24))
        shop.batch([("redefine", "qa", ("function", "0")), ("redefine", "qb", ("function", "qa(x)"))])
        self.assertEqual(shop.item("qb"), ("function", "qa(x)"))


class RedefineTest(unittest.TestCase):
    def setUp(self):
        self.shop = shop_with(BASIS)

    def check(self, error, name, item):
        before = told(self.shop)
        self.assertEqual(caught(self.shop.redefine, name, item), error)
        self.assertEqual(told(self.shop), before)

    def test_each_kind(self):
        for name, item in (("trits", ("set", 3, [2, 1, 0, -1])), ("half", ("function", "1/3*x")),
                           ("slow", ("writer", "half", "wide", "bin")), ("both", ("pipe", ["slow"] * 6)),
                           ("bin", ("set", 2, (1, 0, -1))), ("bits", ("set", 2, (-1, 0, 1)))):
            shop = self.shop.clone()
            self.assertIsNone(shop.redefine(name, item))
            self.assertEqual(shop.item(name), tuple([tuple(sorted(part)) if isinstance(part, (list, tuple)) else part
                                                     for part in item]))
            self.assertEqual((shop.history(), len(shop)), ((len(BASIS) + 1, 0), len(BASIS)))

    def test_names_that_are_not_defined(self):
        for name in ("nope", "x", "", "abs", "Bin"):
            for item in (("function", "x"), (), ("set", 1, ())):
                self.check(("UndefinedName", name), name, item)

    def test_another_kind(self):
        items = {"set": ("set", 2, (0, 1)), "function": ("function", "x"),
                 "writer": ("writer", "half", "bin", "bin"), "pipe": ("pipe", ("slow",))}
        for name, present in BASIS:
            for kind, item in items.items():
                if kind != present[0]:
                    self.check(("WrongKind", name), name, item)

    def test_item_errors_come_before_another_kind(self):
        for error, item in ((("InvalidItem",), ()), (("InvalidBase",), ("set", 1, ())),
                            (("InvalidText", 0), ("function", "")), (("UndefinedName", "no"), ("pipe", ("no",))),
                            (("WrongKind", "bin"), ("pipe", ("bin",))), (("Incompatible",), ("pipe", ("up", "up"))),
                            (("NotRedundant",), ("writer", "half", "bin", "bits"))):
            self.check(error, "half" if item[:1] != ("function",) else "bin", item)

    def test_another_kind_comes_before_a_circle_and_before_users(self):
        self.check(("WrongKind", "half"), "half", ("writer", "half", "bin", "bin"))
        self.check(("WrongKind", "slow"), "slow", ("pipe", ("slow",)))
        self.check(("WrongKind", "bin"), "bin", ("pipe", ("slow",)))

    def test_circles_of_functions(self):
        shop = self.shop
        shop.define("ff", ("function", "half(x)"))
        shop.define("gg", ("function", "(ff(x) + half(x))"))
        self.check(("CircularName", "half"), "half", ("function", "half(x)"))
        self.check(("CircularName", "half"), "half", ("function", "ff(x)"))
        self.check(("CircularName", "half"), "half", ("function", "gg(x)"))
        self.check(("CircularName", "ff"), "ff", ("function", "gg(half(x))"))
        self.check(("UndefinedName", "aa"), "ff", ("function", "(gg(x) + aa(x))"))
        shop.redefine("gg", ("function", "half(half(x))"))
        shop.redefine("ff", ("function", "gg(x)"))
        self.check(("CircularName", "gg"), "gg", ("function", "ff(x)"))

    def test_circles_of_pipes(self):
        shop = self.shop
        shop.define("twice", ("pipe", ("both", "slow")))
        self.check(("CircularName", "both"), "both", ("pipe", ("both",)))
        self.check(("CircularName", "both"), "both", ("pipe", ("slow", "twice")))
        # The item is judged by the present definitions, and the circle comes before what others need.
        self.check(("Incompatible",), "both", ("pipe", ("twice", "down")))
        self.check(("CircularName", "both"), "both", ("pipe", ("twice", "up")))

    def test_what_others_need(self):
        shop = self.shop
        self.check(("NameInUse", "down"), "bin", ("set", 2, (0, 1)))
        self.check(("NameInUse", "down"), "bin", ("set", 3, (-2, -1, 0, 1, 2)))
        self.check(("NameInUse", "up"), "wide", ("set", 2, (0, 1)))
        self.check(("NameInUse", "read"), "bits", ("set", 3, (0, 1, 2)))
        self.check(("NameInUse", "alike"), "same", ("set", 2, (0, 1)))
        shop.redefine("trits", ("set", 3, (-1, 0, 1)))
        shop.redefine("bits", ("set", 2, (-2, 0, 2)))
        shop.redefine("wide", ("set", 2, (-3, 0, 1, 2)))

    def test_the_first_name_that_could_not_be_defined(self):
        # The pipe could still be defined if its parts could, so it is not reported, although it stands before them.
        shop = shop_with([("bin", ("set", 2, (-1, 0, 1))), ("id", ("function", "x")),
                          ("zz", ("writer", "id", "bin", "bin")), ("yy", ("writer", "id", "bin", "bin")),
                          ("aa", ("pipe", ("zz", "yy")))])
        self.assertEqual(caught(shop.redefine, "bin", ("set", 2, (0, 1))), ("NameInUse", "yy"))

    def test_pipes_whose_sets_do_not_fit_any_more(self):
        shop = self.shop
        shop.define("ab", ("pipe", ("slow", "alike")))
        shop.define("aa", ("pipe", ("ab", "both")))
        # Both sets are equal now: if one changes, the writers can still be defined, but not the pipes.
        self.check(("NameInUse", "aa"), "same", ("set", 2, (-2, 0, 1, 2)))
        self.check(("NameInUse", "ab"), "alike", ("writer", "half", "wide", "bin"))
        self.check(("NameInUse", "aa"), "alike", ("writer", "half", "same", "wide"))
        self.check(("NameInUse", "aa"), "ab", ("pipe", ("slow", "up")))
        self.check(("NameInUse", "aa"), "both", ("pipe", ("down", "up")))
        self.check(("NameInUse", "ab"), "slow", ("writer", "half", "bin", "wide"))
        shop.redefine("ab", ("pipe", ("read", "alike")))
        shop.redefine("bits", ("set", 2, (0, 1, 2)))

    def test_a_function_can_always_be_replaced(self):
        self.shop.redefine("half", ("function", "1000*x"))
        self.assertEqual(self.shop.item("half"), ("function", "1000*x"))

    def test_replacing_by_the_same_item_is_a_step(self):
        before = self.shop.clone()
        self.shop.redefine("half", ("function", "1/2*x"))
        self.assertEqual((self.shop, self.shop.history()), (before, (len(BASIS) + 1, 0)))


class DeleteTest(unittest.TestCase):
    def test_names_in_use_and_others(self):
        shop = shop_with(BASIS)
        for name, user in (("bin", "down"), ("same", "alike"), ("wide", "down"), ("bits", "read"), ("half", "alike"),
                           ("up", "both"), ("down", "both")):
            self.assertEqual(caught(shop.delete, name), ("NameInUse", user))
        for name in ("nope", "", "x", "BIN"):
            self.assertEqual(caught(shop.delete, name), ("UndefinedName", name))
        self.assertEqual(shop.history(), (len(BASIS), 0))
        for name in ("both", "up", "down", "read", "wide", "bits", "slow", "trits", "alike", "same", "half", "three",
                     "bin"):
            self.assertIsNone(shop.delete(name))
            self.assertNotIn(name, shop.names())
            self.assertEqual(caught(shop.delete, name), ("UndefinedName", name))
        self.assertEqual((shop, len(shop), repr(shop)), (Workshop(), 0, "Workshop(0 names)"))

    def test_only_names_that_refer_to_it_are_reported(self):
        shop = shop_with([("zz", ("function", "x")), ("mm", ("function", "zz(x)")), ("aa", ("function", "mm(x)"))])
        self.assertEqual(caught(shop.delete, "zz"), ("NameInUse", "mm"))
        self.assertEqual(caught(shop.delete, "mm"), ("NameInUse", "aa"))

    def test_a_name_that_stands_in_a_longer_word_is_not_used(self):
        shop = shop_with([("ab", ("function", "x")), ("abc", ("function", "x")), ("user", ("function", "abc(x)"))])
        shop.delete("ab")
        self.assertEqual(shop.names(), ["abc", "user"])

    def test_defined_again(self):
        shop = shop_with(BASIS)
        shop.delete("three")
        shop.define("three", ("function", "half(x)"))
        self.assertEqual(shop.item("three"), ("function", "half(x)"))


class BatchTest(unittest.TestCase):
    COMMANDS = [("define", "ab", ("function", "half(x)")), ("redefine", "half", ("function", "x")),
                ("define", "cd", ("pipe", ["slow"])), ("delete", "three")]

    def test_lists_and_tuples(self):
        for commands in (self.COMMANDS, tuple(self.COMMANDS)):
            shop, single = shop_with(BASIS), shop_with(BASIS)
            self.assertIsNone(shop.batch(commands))
            single.define("ab", ("function", "half(x)"))
            single.redefine("half", ("function", "x"))
            single.define("cd", ("pipe", ["slow"]))
            single.delete("three")
            self.assertEqual((shop, shop.history()), (single, (len(BASIS) + 1, 0)))
            shop.undo()
            self.assertEqual(shop, shop_with(BASIS))
            shop.redo()
            self.assertEqual(shop, single)

    def test_empty_lists(self):
        shop = shop_with(BASIS)
        shop.undo()
        before = told(shop)
        self.assertIsNone(shop.batch([]))
        self.assertIsNone(shop.batch(()))
        self.assertEqual(told(shop), before)
        shop.redo()

    def test_malformed_commands_at_any_position(self):
        wrong = [(), ("define",), ("define", "xy"), ("define", "xy", ("function", "x"), 1), ("delete",),
                 ("delete", "three", "trits"), ("redefine", "half"), ("redefine",), ("undo",), ("", "xy"),
                 ("Define", "xy", ("function", "x")), ("set", 2, (0, 1)), ("names",)]
        shop = shop_with(BASIS)
        shop.undo()
        before = told(shop)
        for command in wrong:
            for at in range(len(self.COMMANDS) + 1):
                commands = self.COMMANDS[:at] + [command] + self.COMMANDS[at:]
                self.assertEqual(caught(shop.batch, commands), ("InvalidCommand", at))
                self.assertEqual(caught(shop.batch, tuple(commands) + ((),)), ("InvalidCommand", at))
        # Also behind a command that would raise an error.
        self.assertEqual(caught(shop.batch, [("delete", "nope"), ("define", "a", ()), ("delete",)]),
                         ("InvalidCommand", 2))
        self.assertEqual(told(shop), before)

    def test_errors_in_the_middle(self):
        shop = shop_with(BASIS)
        shop.undo()
        before = told(shop)
        for error, command in ((("UndefinedName", "nope"), ("delete", "nope")),
                               (("InvalidItem",), ("define", "xy", ())),
                               (("NameInUse", "ab"), ("delete", "half")), (("InvalidName", "x"), ("define", "x", ())),
                               (("DuplicateName", "ab"), ("define", "ab", ("function", "x"))),
                               (("CircularName", "half"), ("redefine", "half", ("function", "ab(x)"))),
                               (("WrongKind", "ab"), ("redefine", "ab", ("set", 2, (0, 1))))):
            commands = [self.COMMANDS[0], command, ("delete", "nothing")]
            if error == ("NameInUse", "ab"):
                commands.insert(0, ("redefine", "half", ("function", "x")))
            self.assertEqual(caught(shop.batch, commands), error)
            self.assertEqual(told(shop), before)
        shop.redo()
        self.assertEqual(shop, shop_with(BASIS))

    def test_commands_see_what_the_ones_before_did(self):
        shop = Workshop()
        shop.batch([("define", "ff", ("function", "x")), ("define", "gg", ("function", "ff(x)")),
                    ("redefine", "ff", ("function", "2*x")), ("redefine", "gg", ("function", "x")), ("delete", "ff")])
        self.assertEqual((shop.names(), shop.item("gg"), shop.history()), (["gg"], ("function", "x"), (1, 0)))
        self.assertEqual(caught(shop.batch, [("delete", "gg"), ("delete", "gg")]), ("UndefinedName", "gg"))

    def test_a_batch_that_puts_everything_back_is_a_step(self):
        shop = shop_with(BASIS)
        shop.batch([("delete", "three"), ("define", "three", ("set", 3, [2, 1, 0, -1, -2]))])
        self.assertEqual((shop, shop.history()), (shop_with(BASIS), (len(BASIS) + 1, 0)))


class HistoryTest(unittest.TestCase):
    def test_both_ends(self):
        shop = Workshop()
        self.assertEqual((shop.history(), caught(shop.undo), caught(shop.redo)),
                         ((0, 0), ("EmptyHistory",), ("EmptyHistory",)))
        for name, item in BASIS:
            shop.define(name, item)
        self.assertEqual(caught(shop.redo), ("EmptyHistory",))
        for many in range(len(BASIS) - 1, -1, -1):
            self.assertIsNone(shop.undo())
            self.assertEqual(shop, shop_with(BASIS[:many]))
            self.assertEqual(shop.history(), (many, len(BASIS) - many))
        self.assertEqual(caught(shop.undo), ("EmptyHistory",))
        self.assertEqual(shop.history(), (0, len(BASIS)))
        for many in range(1, len(BASIS) + 1):
            self.assertIsNone(shop.redo())
            self.assertEqual(shop, shop_with(BASIS[:many]))
            self.assertEqual(shop.history(), (many, len(BASIS) - many))
        self.assertEqual(caught(shop.redo), ("EmptyHistory",))

    def test_behind_errors(self):
        shop = shop_with(BASIS)
        shop.undo()
        shop.undo()
        before = told(shop)
        for call, *rest in ((shop.define, "bin", ()), (shop.redefine, "nope", ()), (shop.delete, "bin"),
                            (shop.batch, [("delete",)]), (shop.batch, [("delete", "down"), ("delete", "nope")]),
                            (shop.item, "nope"), (shop.machine, "nope"), (shop.machine, "bin")):
            caught(call, *rest)
            self.assertEqual(told(shop), before)
        shop.redo()
        shop.redo()
        self.assertEqual(shop, shop_with(BASIS))

    def test_a_new_step_discards_what_was_taken_back(self):
        for call, *rest in (("define", "new", ("function", "x")), ("redefine", "half", ("function", "x")),
                            ("delete", "three"), ("batch", [("delete", "three")])):
            shop = shop_with(BASIS)
            shop.undo()
            shop.undo()
            getattr(shop, call)(*rest)
            self.assertEqual(shop.history(), (len(BASIS) - 1, 0))
            self.assertEqual(caught(shop.redo), ("EmptyHistory",))
            shop.undo()
            self.assertEqual(shop, shop_with(BASIS[:-2]))

    def test_queries_are_no_steps(self):
        shop = shop_with()
        shop.undo()
        for call, *rest in ((shop.names,), (shop.item, "bin"), (shop.history,), (shop.cached,), (shop.computations,),
                            (shop.function_of, "trip"), (shop.machine, "trip"), (shop.delay, "both"),
                            (shop.slack, "trip"), (shop.start_run, "slow"), (shop.clone,), (len, shop), (repr, shop)):
            call(*rest)
            self.assertEqual(shop.history(), (len(EXAMPLE) - 1, 1))
        self.assertEqual(shop, shop_with(EXAMPLE[:-1]))

    def test_against_a_list_of_states(self):
        chance = random.Random(18)
        names = ["fa", "fb", "fc", "fd"]
        shop, states, at = Workshop(), [{}], 0
        for _ in range(1500):
            choice = chance.random()
            name = chance.choice(names)
            inner = chance.choice(["x", "0", f"{chance.choice(names)}(x)"])
            before = dict(states[at])
            try:
                if choice < 0.3:
                    shop.define(name, ("function", inner))
                    after = {**before, name: inner}
                elif choice < 0.5:
                    shop.redefine(name, ("function", inner))
                    after = {**before, name: inner}
                elif choice < 0.6:
                    shop.delete(name)
                    after = {other: before[other] for other in before if other != name}
                elif choice < 0.8:
                    shop.undo()
                    at -= 1
                    after = None
                else:
                    shop.redo()
                    at += 1
                    after = None
                if after is not None:
                    states[at + 1:] = [after]
                    at += 1
            except (ValueError, LookupError):
                pass
            self.assertEqual({name: shop.item(name)[1] for name in shop.names()}, states[at])
            self.assertEqual(shop.history(), (at, len(states) - 1 - at))
            for text in states[at].values():
                self.assertTrue(len(text) == 1 or text[:2] in states[at])


class CloneAndEqualityTest(unittest.TestCase):
    def test_clones_of_clones(self):
        shop = shop_with(BASIS)
        shop.undo()
        twin = shop.clone()
        third = twin.clone()
        self.assertEqual((told(twin), told(third)), (told(shop), told(shop)))
        shop.redo()
        twin.define("new", ("function", "x"))
        third.undo()
        third.undo()
        self.assertEqual((shop.history(), twin.history(), third.history()),
                         ((len(BASIS), 0), (len(BASIS), 0), (len(BASIS) - 3, 3)))
        self.assertEqual((shop, third), (shop_with(BASIS), shop_with(BASIS[:-3])))
        self.assertEqual(twin, shop_with(BASIS[:-1] + [("new", ("function", "x"))]))
        for each, many in ((shop, len(BASIS)), (twin, len(BASIS)), (third, len(BASIS) - 3)):
            for _ in range(many):
                each.undo()
            self.assertEqual((len(each), caught(each.undo)), (0, ("EmptyHistory",)))
        while third.history()[1]:
            third.redo()
        self.assertEqual((third, len(shop), len(twin)), (shop_with(BASIS), 0, 0))

    def test_equal_workshops_with_definitions_in_another_order(self):
        others = [("three", ("set", 3, [0, 2, -2, 1, -1])), *[pair for pair in BASIS if pair[0] != "three"]]
        self.assertEqual(shop_with(others), shop_with(BASIS))
        shop = shop_with(others)
        shop.define("new", ("function", "x"))
        self.assertNotEqual(shop, shop_with(BASIS))
        shop.delete("new")
        self.assertEqual(shop, shop_with(BASIS))
        self.assertFalse(shop != shop_with(BASIS))

    def test_different_workshops(self):
        for one, other in (([], BASIS[:1]), (BASIS, BASIS[:-1]),
                           ([("ab", ("function", "x"))], [("cd", ("function", "x"))]),
                           ([("ab", ("function", "x"))], [("ab", ("function", "0"))]),
                           ([("ab", ("set", 2, (0, 1)))], [("ab", ("set", 2, (0, 1, 2)))]),
                           ([("ab", ("set", 2, (0, 1, 2, 3)))], [("ab", ("set", 3, (0, 1, 2, 3)))])):
            self.assertNotEqual(shop_with(one), shop_with(other))

    def test_a_workshop_is_not_equal_to_other_values(self):
        for shop in (Workshop(), shop_with(BASIS)):
            for other in (None, [], {}, (), 0, "Workshop(0 names)", shop.names(), dict(BASIS)):
                self.assertFalse(shop == other)
                self.assertTrue(shop != other)

    def test_returned_lists_are_new(self):
        shop = shop_with()
        shop.machine("long")
        for call in (shop.names, shop.cached):
            before = list(call())
            call().clear()
            self.assertEqual(call(), before)
        self.assertEqual((len(shop), len(shop.cached())), (len(EXAMPLE), 6))


if __name__ == "__main__":
    unittest.main()

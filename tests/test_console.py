"""Promise [22]: the lines of a console, the answers to them, and the transcript."""

import random
import re
import unittest

from earlywrite.console import Console
from earlywrite.documents import item_line
from earlywrite.errors import EarlyError, EmptyHistory, UndefinedName
from earlywrite.workshop import Workshop
from helpers import EXAMPLE, shop_with, told

NUMBER = "(?:0|-?[1-9][0-9]{0,5})"
WORD = "[^ ]+"
# The forms of the lines, and for each the call on a workshop whose result is the answer.
FORMS = [
    (f"set ({WORD}) ({NUMBER})((?: {NUMBER})+)",
     lambda shop, name, base, digits: shop.define(name, ("set", int(base),
                                                         [int(digit) for digit in digits.split(" ")[1:]]))),
    (f"function ({WORD}) ({WORD}(?: {WORD})*)", lambda shop, name, text: shop.define(name, ("function", text))),
    (f"writer ({WORD}) ({WORD}) ({WORD}) ({WORD})", lambda shop, name, *rest: shop.define(name, ("writer", *rest))),
    (f"pipe ({WORD})((?: {WORD})+)", lambda shop, name, parts: shop.define(name, ("pipe", parts.split(" ")[1:]))),
    (f"delete ({WORD})", lambda shop, name: shop.delete(name)),
    ("undo", lambda shop: shop.undo()),
    ("redo", lambda shop: shop.redo()),
    ("names", lambda shop: " ".join(shop.names()) or "none"),
    (f"show ({WORD})", lambda shop, name: item_line(name, shop.item(name))),
    (f"delay ({WORD})", lambda shop, name: str(shop.delay(name))),
    (f"slack ({WORD})", lambda shop, name: str(shop.slack(name))),
    (f"states ({WORD})", lambda shop, name: str(len(shop.machine(name)))),
    (f"run ({WORD})((?: {NUMBER})+)", lambda shop, name, row: " ".join(
        map(str, shop.machine(name).run(tuple([int(digit) for digit in row.split(" ")[1:]])))) or "none"),
]
LINES = [
    "set bin 2 -1 0 1", "set wide 2 -2 -1 0 1 2", "set bits 2 0 1", "function half 1/2*x",
    "function clip max(-1, min(1, x))", "function near clip(2*half(x))", "writer slow half bin bin",
    "writer up near bin wide", "writer back clip wide bin", "pipe both slow slow", "pipe trip up back",
    "pipe long both trip", "delete long", "undo", "redo", "names", "show slow", "delay trip", "slack trip",
    "states trip",
    "run slow 1 0 -1", "run back 1",
]


def own_answer(shop, line):
    """The answer to a line, found by regular expressions and by calls on a workshop."""
    for form, call in FORMS:
        match = re.fullmatch(form, line)
        if match:
            try:
                answer = call(shop, *match.groups())
                return "ok" if answer is None else answer
            except (EarlyError, UndefinedName, EmptyHistory) as error:
                return f"error {type(error).__name__}"
    return "invalid"


def answers(lines, console=None):
    console = Console() if console is None else console
    return [console.execute(line) for line in lines]


class ExamplesTest(unittest.TestCase):
    def test_definitions(self):
        lines = ["set bin 2 -1 0 1", "function id x", "function half 1/2*x", "writer slow half bin bin", "delay slow",
                 "delay fast"]
        self.assertEqual(answers(lines), ["ok", "ok", "ok", "ok", "-1", "error UndefinedName"])

    def test_an_empty_console(self):
        lines = ["names", "names x", "undo", "set s 2 0 1", "set ss 2 0 1", "show ss"]
        self.assertEqual(answers(lines),
                         ["none", "invalid", "error EmptyHistory", "error InvalidName", "ok", "set ss 2 0 1"])

    def test_transcript(self):
        console = Console()
        console.execute("names")
        self.assertEqual([console.transcript(), len(console.workshop())], [[("names", "none")], 0])


class LinesTest(unittest.TestCase):
    def setUp(self):
        self.console = Console(shop_with())

    def check(self, line, answer):
        self.assertEqual(self.console.execute(line), answer, line)

    def check_invalid(self, *lines):
        """These lines change nothing."""
        before = told(self.console.workshop())
        for line in lines:
            self.check(line, "invalid")
        self.assertEqual(told(self.console.workshop()), before)

    def test_all_lines_in_order(self):
        self.assertEqual(answers(LINES), ["ok"] * 15 + [
            "back bin bits both clip half near slow trip up wide", "writer slow half bin bin", "1", "1", "4",
            " ".join(map(str, shop_with().machine("slow").run((1, 0, -1)))), "none"])

    def test_set(self):
        for line in ("set ab 2 1 0", "set cd 10 5 -5 4 -4 3 -3 2 -2 1 -1 0", "set ef 3 -99 0 99"):
            self.check(line, "ok")
        self.check("show ab", "set ab 2 0 1")
        self.check("show cd", "set cd 10 -5 -4 -3 -2 -1 0 1 2 3 4 5")
        for line, error in (("set bin 2 0 1", "DuplicateName"), ("set abs 2 0 1", "InvalidName"),
                            ("set gh 1 0 1", "InvalidBase"), ("set gh -2 0 1", "InvalidBase"),
                            ("set gh 999999 0 1", "InvalidBase"), ("set gh 2 0", "InvalidDigits"),
                            ("set gh 2 0 0", "InvalidDigits"), ("set gh 2 0 999999", "InvalidDigits"),
                            ("set gh 2 -999999 0", "InvalidDigits"), ("set G 0 0", "InvalidName")):
            self.check(line, f"error {error}")
        self.check_invalid("set", "set gh", "set gh 2", "set gh x 0 1", "set gh 2 x", "set gh 2 0 x 1", "set 2 0 1 gh",
                           "set gh 2 0 1.5", "set gh 2 0, 1", "set gh 2 (0 1)")

    def test_function(self):
        for line in ("function ab x", "function cd (ab(x) + 1/2)", "function ef max(x, min(0, half(x)))"):
            self.check(line, "ok")
            self.check("show " + line.split(" ")[1], line)
        for line, error in (("function bin x", "DuplicateName"), ("function x x", "InvalidName"),
                            ("function gh y", "InvalidText"), ("function gh (x +1)", "InvalidText"),
                            ("function gh x x", "InvalidText"), ("function gh nope(x)", "UndefinedName"),
                            ("function gh bin(x)", "WrongKind"), ("function gh x\n", "InvalidText")):
            self.check(line, f"error {error}")
        self.check_invalid("function", "function gh", "function gh ", "function gh  x", "function gh (x  + 1)",
                           "function gh x ", "function  gh x")

    def test_writer(self):
        self.check("writer ab half wide bin", "ok")
        self.check("show ab", "writer ab half wide bin")
        for line, error in (("writer bin half wide bin", "DuplicateName"), ("writer a half wide bin", "InvalidName"),
                            ("writer cd nope wide bin", "UndefinedName"), ("writer cd half half bin", "WrongKind"),
                            ("writer cd half wide bits", "NotRedundant")):
            self.check(line, f"error {error}")
        self.check("set three 3 -2 -1 0 1 2", "ok")
        self.check("writer cd half three bin", "error Incompatible")
        self.check_invalid("writer", "writer cd", "writer cd half", "writer cd half bin", "writer cd half bin bin bin")

    def test_pipe(self):
        for line in ("pipe ab slow", "pipe cd ab slow both trip up back"):
            self.check(line, "ok")
            self.check("show " + line.split(" ")[1], line)
        for line, error in (("pipe ab slow", "DuplicateName"), ("pipe max slow", "InvalidName"),
                            ("pipe ef slow slow slow slow slow slow slow", "InvalidItem"),
                            ("pipe ef nope", "UndefinedName"), ("pipe ef half", "WrongKind"),
                            ("pipe ef ef", "UndefinedName"), ("pipe ef up up", "Incompatible")):
            self.check(line, f"error {error}")
        self.check_invalid("pipe", "pipe ef", "pipe ef ", "pipe  slow")

    def test_delete_undo_and_redo(self):
        self.check("delete long", "ok")
        self.check("show long", "error UndefinedName")
        self.check("delete long", "error UndefinedName")
        self.check("delete bin", "error NameInUse")
        self.check("redo", "error EmptyHistory")
        self.check("undo", "ok")
        self.check("show long", "pipe long both trip")
        self.check("redo", "ok")
        self.check("redo", "error EmptyHistory")
        for _ in range(len(EXAMPLE) + 1):
            self.check("undo", "ok")
        self.check("undo", "error EmptyHistory")
        self.check("names", "none")
        self.check_invalid("delete", "delete long long", "undo 1", "redo 1", "undo undo", "Undo", "UNDO")

    def test_names_and_show(self):
        self.check("names", " ".join(sorted([name for name, item in EXAMPLE])))
        for name, item in EXAMPLE:
            self.check(f"show {name}", item_line(name, item))
        self.check("show nope", "error UndefinedName")
        self.check("show 1", "error UndefinedName")
        self.check_invalid("names bin", "show", "show bin wide", "name")

    def test_questions_about_machines(self):
        shop = shop_with()
        for name, item in EXAMPLE:
            if item[0] in ("writer", "pipe"):
                self.check(f"delay {name}", str(shop.delay(name)))
                self.check(f"slack {name}", str(shop.slack(name)))
                self.check(f"states {name}", str(len(shop.machine(name))))
        for word in ("delay", "slack", "states"):
            self.check(f"{word} nope", "error UndefinedName")
            self.check(f"{word} bin", "error WrongKind")
            self.check(f"{word} half", "error WrongKind")
            self.check_invalid(word, f"{word} slow slow", f"{word} slow 1")
        self.check("function far 2*x", "ok")
        self.check("writer out far bin bin", "ok")
        for line in ("delay out", "slack out", "states out", "run out 1"):
            self.check(line, "error OutOfRange")
        self.check("function odd 1/999983*x", "ok")
        self.check("writer odder odd bin bin", "ok")
        for line in ("delay odder", "slack odder", "states odder", "run odder 0"):
            self.check(line, "error LimitReached")

    def test_run(self):
        machine = shop_with().machine("long")
        for row in ((1,), (1, 0), (0, -1, 1, 1), (1,) * 40, (0,) * 200):
            self.check("run long " + " ".join(map(str, row)), " ".join(map(str, machine.run(row))))
        # The machine of back has the delay 2.
        self.check("run back 2", "none")
        self.check("run back 2 2", "none")
        self.check("run back 2 2 2", "1")
        for line, error in (("run slow 2", "InvalidRow"), ("run slow 0 1 -2 1", "InvalidRow"),
                            ("run slow 999999", "InvalidRow"), ("run nope 7", "UndefinedName"),
                            ("run bin 7", "WrongKind"), ("run slow" + " 0" * 201, "InvalidRow")):
            self.check(line, f"error {error}")
        self.check_invalid("run", "run slow", "run slow x", "run slow 1 x", "run 1", "run slow 1,0", "run slow slow 1")

    def test_numbers(self):
        for word in ("0", "1", "-1", "10", "-10", "123456", "-123456", "999999", "-999999", "100000"):
            self.check(f"set ab 2 {word}", "error InvalidDigits")
            self.check(f"set ab {word} 7", "error InvalidBase" if word != "10" else "error InvalidDigits")
            self.check(f"run both 7 {word}", "error InvalidRow")
        for word in ("00", "01", "-0", "-01", "-00", "007", "1234567", "-1234567", "0000000", "+1", "--1", "-", "1-",
                     "1.0",
                     "1/2", "x", "1e3", "0x1", "1_0", "\u0661", "-\u0661", "\u00b2", "1\n", "\n1", "\t1"):
            self.check_invalid(f"set ab 2 {word}", f"set ab {word} 0 1", f"set ab 2 0 {word} 1", f"run both {word}",
                               f"run both 1 {word}", f"run both {word} 1")

    def test_spaces_and_empty_lines(self):
        self.check_invalid("", " ", "  ", "\n", "\t")
        for line in LINES:
            words = line.split(" ")
            self.check_invalid(" " + line, line + " ", " " + line + " ")
            for at in range(1, len(words)):
                self.check_invalid(" ".join(words[:at]) + "  " + " ".join(words[at:]))
            self.check_invalid(line.capitalize(), "please " + line, f"{words[0]}s{line[len(words[0]):]}")

    def test_tabs_are_no_spaces(self):
        self.check_invalid("show\tslow", "names\t", "\tnames", "undo\n")
        self.check("show slow\t", "error UndefinedName")
        self.check("show \tslow", "error UndefinedName")
        self.check("delete slow\n", "error UndefinedName")

    def test_names_that_are_also_commands(self):
        for line in ("function names x", "function show names(x)", "function delete show(x)", "function none x"):
            self.check(line, "ok")
        self.check("show names", "function names x")
        self.check("show show", "function show names(x)")
        self.check("delete delete", "ok")
        self.check("delete names", "error NameInUse")


class OracleTest(unittest.TestCase):
    """All answers against regular expressions and calls on a workshop."""

    def check(self, lines, shop):
        console = Console(shop)
        own = shop.clone()
        for line in lines:
            self.assertEqual(console.execute(line), own_answer(own, line), line)
        self.assertEqual(told(console.workshop()), told(own))

    def test_a_word_removed_added_repeated_or_exchanged(self):
        for line in LINES:
            words, changed = line.split(" "), []
            for at in range(len(words)):
                changed.append(words[:at] + words[at + 1:])
                changed.append(words[:at] + [words[at]] + words[at:])
                changed.append(words[:at + 1] + [""] + words[at + 1:])
                changed += [words[:at] + [word] + words[at:] for word in ("bin", "slow", "x", "1", "-0")]
                changed += [words[:at] + [word] + words[at + 1:] for word in ("bin", "up", "x", "0", "00", "nope",
                                                                              "run")]
                for other in range(at):
                    swapped = list(words)
                    swapped[at], swapped[other] = swapped[other], swapped[at]
                    changed.append(swapped)
            for words in changed:
                self.check([" ".join(words)], shop_with(EXAMPLE[:-1]))

    def test_random_lines(self):
        chance = random.Random(22)
        names = ["bin", "wide", "half", "clip", "slow", "up", "back", "both", "aa", "bb", "cc", "x"]

        def name():
            return chance.choice(names)

        def line():
            return chance.choice([
                f"set {name()} 2 -1 0 1", f"set {name()} 2 2 1 0 -1 -2", f"function {name()} 1/2*x",
                f"function {name()} ({name()}(x) - 1/4*x)", f"writer {name()} {name()} {name()} {name()}",
                f"pipe {name()} {name()} {name()}", f"pipe {name()} {name()}", f"delete {name()}", "undo", "undo",
                "redo",
                "names", f"show {name()}", f"delay {name()}", f"slack {name()}", f"states {name()}",
                f"run {name()} 1 0 -1", f"run {name()} 2", f"{name()} {name()}", "", f"show  {name()}"])

        for seed in range(12):
            chance.seed(seed)
            self.check([line() for _ in range(150)], shop_with(EXAMPLE[:9]) if seed % 2 else Workshop())


class ErrorsTest(unittest.TestCase):
    def test_an_error_of_each_kind_that_a_line_can_have(self):
        console = Console(shop_with())
        found = {}
        for line in ("set a 2 0 1", "set bin 2 0 1", "pipe ab slow slow slow slow slow slow slow", "set ab 1 0 1",
                     "set ab 2 0", "function ab y", "delay nope", "delay bin", "pipe ab up up",
                     "writer ab half bin bits",
                     "delete bin", "redo", "run slow 5"):
            answer = console.execute(line)
            self.assertTrue(answer.startswith("error "), line)
            found[answer[6:]] = True
        self.assertEqual(sorted(found), sorted([
            "InvalidName", "DuplicateName", "InvalidItem", "InvalidBase", "InvalidDigits", "InvalidText",
            "UndefinedName",
            "WrongKind", "Incompatible", "NotRedundant", "NameInUse", "EmptyHistory", "InvalidRow"]))

    def test_too_many_names(self):
        console = Console()
        lines = [f"function q{letter} x" for letter in "abcdefghijklmnopqrstuvwxy"]
        self.assertEqual(answers(lines, console), ["ok"] * 24 + ["error LimitReached"])
        self.assertEqual(answers(["delete qa", lines[-1]], console), ["ok", "ok"])


class ObjectsTest(unittest.TestCase):
    def test_the_given_workshop_is_cloned(self):
        shop = shop_with()
        shop.undo()
        shop.machine("both")
        console = Console(shop)
        self.assertEqual(told(console.workshop()), told(shop))
        before = told(shop)
        answers(["redo", "delay long", "delete long", "delete trip", "function new x"], console)
        self.assertEqual(told(shop), before)
        shop.define("mine", ("function", "x"))
        self.assertEqual(console.execute("show mine"), "error UndefinedName")

    def test_the_returned_workshop_is_a_clone(self):
        console = Console(shop_with())
        one, other = console.workshop(), console.workshop()
        one.delete("long")
        one.machine("trip")
        self.assertEqual((len(other), other.cached()), (len(EXAMPLE), []))
        self.assertEqual(console.execute("show long"), "pipe long both trip")
        self.assertEqual(told(console.workshop()), told(other))
        console.execute("delete long")
        self.assertEqual(len(other), len(EXAMPLE))

    def test_two_consoles(self):
        one, other = Console(), Console()
        one.execute("function ab x")
        self.assertEqual((other.execute("names"), one.execute("names")), ("none", "ab"))
        self.assertEqual((len(one.transcript()), len(other.transcript())), (2, 1))

    def test_none_is_an_empty_workshop(self):
        self.assertEqual(Console(None).workshop(), Workshop())
        self.assertEqual(Console(workshop=None).workshop().history(), (0, 0))
        self.assertEqual(Console().workshop(), Workshop())

    def test_questions_cache_machines(self):
        for line in ("delay both", "slack both", "states both", "run both 1", "run both 7"):
            console = Console(shop_with())
            console.execute(line)
            shop = console.workshop()
            self.assertEqual((shop.cached(), shop.computations(), shop.history()),
                             (["both", "slow"], 2, (len(EXAMPLE), 0)))
            console.execute(line)
            self.assertEqual(console.workshop().computations(), 2)
        for line in ("names", "show both", "delay nope", "delay bin", "run both", "run both x"):
            console = Console(shop_with())
            console.execute(line)
            self.assertEqual(console.workshop().cached(), [])

    def test_the_transcript(self):
        console = Console()
        lines = ["names", "", "set ab 2 0 1", "names", "names", "show  ab", "delay ab", "nonsense", "undo", "undo",
                 "redo"]
        expected = ["none", "invalid", "ok", "ab", "ab", "invalid", "error WrongKind", "invalid", "ok",
                    "error EmptyHistory", "ok"]
        self.assertEqual(console.transcript(), [])
        for at, line in enumerate(lines):
            self.assertEqual(console.execute(line), expected[at])
            self.assertEqual(console.transcript(), list(zip(lines, expected))[:at + 1])
        console.transcript().clear()
        self.assertEqual(len(console.transcript()), len(lines))
        for pair in console.transcript():
            self.assertIsInstance(pair, tuple)

    def test_the_transcript_of_a_console_with_a_workshop_is_empty(self):
        first = Console()
        first.execute("function ab x")
        self.assertEqual(Console(first.workshop()).transcript(), [])


if __name__ == "__main__":
    unittest.main()

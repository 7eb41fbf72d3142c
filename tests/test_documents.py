"""Promise [21]: the documents of workshops, and the first wrong line of texts that are none."""

import itertools
import random
import re
import unittest

from earlywrite.documents import format_workshop, item_line, parse_workshop
from earlywrite.expressions import is_name
from earlywrite.workshop import Workshop
from helpers import EXAMPLE, caught, shop_with, told

NUMBER = "(?:0|-?[1-9][0-9]{0,5})"
KINDS = ["set", "function", "writer", "pipe"]
FORMS = {
    "set": re.compile(rf"set ([a-z]+) ({NUMBER})((?: {NUMBER})+)"),
    "function": re.compile(r"function ([a-z]+) (.+)"),
    "writer": re.compile(r"writer ([a-z]+) ([a-z]+) ([a-z]+) ([a-z]+)"),
    "pipe": re.compile(r"pipe ([a-z]+)((?: [a-z]+)+)"),
}
DOCUMENT = """set bin 2 -1 0 1
set bits 2 0 1
set wide 2 -2 -1 0 1 2
function clip max(-1, min(1, x))
function half 1/2*x
function near clip(2*half(x))
writer slow half bin bin
writer back clip wide bin
writer up near bin wide
pipe both slow slow
pipe trip up back
pipe long both trip
"""


def own_item(line):
    """The name and the item of a line, read by regular expressions, or None."""
    match = FORMS[line.split(" ")[0]].fullmatch(line) if line.split(" ")[0] in FORMS else None
    if match is None:
        return None
    kind, name = line.split(" ")[0], match[1]
    if kind == "set":
        digits = [int(digit) for digit in match[3].split()]
        return (name, ("set", int(match[2]), digits)) if digits == sorted(digits) else None
    if kind == "pipe":
        return (name, ("pipe", match[2].split()))
    return (name, (kind, *match.groups()[1:]))


def own_names(item):
    """The names that stand in an item."""
    if item[0] == "function":
        return {name for name in re.findall("[a-z]+", item[1]) if is_name(name)}
    return set() if item[0] == "set" else set(item[1:] if item[0] == "writer" else item[1])


def own_depth(name, shop):
    """The number of names on which a name depends."""
    found = own_names(shop.item(name))
    while True:
        more = found | {other for inner in found for other in own_names(shop.item(inner))}
        if more == found:
            return len(found)
        found = more


def own_place(name, shop):
    return (KINDS.index(shop.item(name)[0]), own_depth(name, shop), name)


def own_first_wrong(text):
    """The index of the first wrong line, or None."""
    shop, last, lines = Workshop(), (-1,), text.split("\n")
    for at, line in enumerate(lines[:-1]):
        try:
            name, item = own_item(line)
            shop.define(name, item)
        except (TypeError, ValueError, LookupError):
            return at
        if own_place(name, shop) <= last:
            return at
        last = own_place(name, shop)
    return None if lines[-1] == "" else len(lines) - 1


class ExamplesTest(unittest.TestCase):
    def test_item_line(self):
        self.assertEqual(item_line("bin", ("set", 2, (-1, 0, 1))), "set bin 2 -1 0 1")

    def test_format_workshop(self):
        shop = shop_with([("bin", ("set", 2, (-1, 0, 1))), ("half", ("function", "1/2*x")),
                          ("slow", ("writer", "half", "bin", "bin"))])
        self.assertEqual(format_workshop(shop),
                         "set bin 2 -1 0 1\nfunction half 1/2*x\nwriter slow half bin bin\n")

    def test_parse_workshop(self):
        self.assertEqual(caught(parse_workshop, "set bin 2 -1 0 1\nfunction half 2/4*x\n"), ("InvalidDocument", 1))


class LinesTest(unittest.TestCase):
    def test_each_kind(self):
        for line, name, item in (
                ("set all 2 -2 -1 0 1 2", "all", ("set", 2, [2, 0, -2, 1, -1])),
                ("set ten 10 -99 0 99", "ten", ("set", 10, (99, 0, -99))),
                ("set bits 2 0 1", "bits", ("set", 2, [1, 0])),
                ("function id x", "id", ("function", "x")),
                ("function far (max(x, 1/2) - half(x))", "far", ("function", "(max(x, 1/2) - half(x))")),
                ("writer slow half bin wide", "slow", ("writer", "half", "bin", "wide")),
                ("pipe one slow", "one", ("pipe", ["slow"])),
                ("pipe six pf pe pd pc pb pa", "six", ("pipe", ("pf", "pe", "pd", "pc", "pb", "pa")))):
            self.assertEqual(item_line(name, item), line)

    def test_the_item_is_not_modified(self):
        digits, parts = [1, -1, 0], ["slow", "fast"]
        item_line("ab", ("set", 2, digits))
        item_line("cd", ("pipe", parts))
        self.assertEqual((digits, parts), ([1, -1, 0], ["slow", "fast"]))


class FormatTest(unittest.TestCase):
    def test_each_kind(self):
        self.assertEqual(format_workshop(shop_with()), DOCUMENT)

    def test_the_empty_workshop(self):
        self.assertEqual(format_workshop(Workshop()), "")

    def test_the_order_of_definitions_does_not_matter(self):
        chance = random.Random(21)
        for _ in range(10):
            order, shop = chance.sample(EXAMPLE, len(EXAMPLE)), Workshop()
            while order:
                for name, item in list(order):
                    if own_names(item) <= set(shop.names()):
                        shop.define(name, item)
                        order.remove((name, item))
            self.assertEqual(format_workshop(shop), DOCUMENT)

    def test_names_with_equal_numbers_of_dependencies(self):
        shop = shop_with([("zz", ("function", "x")), ("aa", ("function", "zz(x)")), ("mm", ("function", "zz(x)")),
                          ("bb", ("function", "(aa(x) + mm(x))")), ("cc", ("function", "aa(zz(x))")),
                          ("yy", ("function", "0")), ("ab", ("function", "(zz(x) + zz(yy(x)))"))])
        self.assertEqual([line.split(" ")[1] for line in format_workshop(shop).splitlines()],
                         ["yy", "zz", "aa", "mm", "ab", "cc", "bb"])

    def test_dependencies_are_counted_once_each_and_through_others(self):
        shop = shop_with([("bin", ("set", 2, (-1, 0, 1))), ("wide", ("set", 2, (-2, -1, 0, 1, 2))),
                          ("ff", ("function", "1/4*x")), ("gg", ("function", "ff(x)")),
                          ("wa", ("writer", "gg", "bin", "bin")), ("wb", ("writer", "ff", "bin", "wide")),
                          ("wc", ("writer", "ff", "bin", "bin")), ("pa", ("pipe", ("wa", "wa", "wc"))),
                          ("pb", ("pipe", ("wc",) * 6)), ("pc", ("pipe", ("wa", "wc", "wb"))),
                          ("pd", ("pipe", ("pb", "pb")))])
        # wa needs gg, ff and bin; wb needs ff, bin and wide; wc only ff and bin.
        self.assertEqual([line.split(" ")[1] for line in format_workshop(shop).splitlines()],
                         ["bin", "wide", "ff", "gg", "wc", "wa", "wb", "pb", "pd", "pa", "pc"])

    def test_nothing_is_changed(self):
        shop = shop_with()
        shop.machine("trip")
        shop.undo()
        before = told(shop)
        self.assertEqual(format_workshop(shop), format_workshop(shop))
        self.assertEqual(told(shop), before)


class ParseTest(unittest.TestCase):
    def check_wrong(self, text):
        """Compare the answer for a text with what the test itself finds out."""
        wrong = own_first_wrong(text)
        if wrong is None:
            self.assertEqual(format_workshop(parse_workshop(text)), text)
        else:
            self.assertEqual(caught(parse_workshop, text), ("InvalidDocument", wrong), text)
        return wrong

    def test_back_again(self):
        shop = parse_workshop(DOCUMENT)
        self.assertIsInstance(shop, Workshop)
        self.assertEqual(shop, shop_with())
        self.assertEqual((shop.history(), shop.cached(), shop.computations()), ((0, 0), [], 0))
        self.assertEqual(caught(shop.undo), ("EmptyHistory",))
        self.assertEqual(format_workshop(shop), DOCUMENT)
        self.assertEqual(shop.machine("long"), shop_with().machine("long"))
        shop.delete("long")
        shop.undo()
        self.assertEqual((shop, shop.history()), (shop_with(), (0, 1)))

    def test_every_beginning_of_the_document(self):
        lines = DOCUMENT.splitlines(keepends=True)
        for many in range(len(lines) + 1):
            text = "".join(lines[:many])
            self.assertEqual(format_workshop(parse_workshop(text)), text)
            self.assertEqual(len(parse_workshop(text)), many)

    def test_the_empty_string_and_empty_lines(self):
        self.assertEqual(parse_workshop(""), Workshop())
        self.assertEqual(parse_workshop("").history(), (0, 0))
        for text, wrong in (("\n", 0), ("\n\n", 0), (DOCUMENT + "\n", 12), ("\n" + DOCUMENT, 0), (" ", 0), (" \n", 0),
                            (DOCUMENT.replace("function clip", "\nfunction clip"), 3), (DOCUMENT + " ", 12)):
            self.assertEqual(self.check_wrong(text), wrong)

    def test_a_missing_newline_at_the_end(self):
        lines = DOCUMENT.splitlines()
        for many in range(1, len(lines) + 1):
            self.assertEqual(self.check_wrong("\n".join(lines[:many])), many - 1)
        # A line that is wrong before counts first.
        self.assertEqual(self.check_wrong("set bin 2 -1 0 1\nset bin 2 -1 0 1\nfunction ab x"), 1)

    def test_removed_lines(self):
        lines = DOCUMENT.splitlines(keepends=True)
        for at in range(len(lines)):
            self.check_wrong("".join(lines[:at] + lines[at + 1:]))
        self.assertEqual(self.check_wrong("".join(lines[1:])), 5)

    def test_repeated_and_inserted_lines(self):
        lines = DOCUMENT.splitlines(keepends=True)
        more = lines + ["set ab 2 0 1\n", "function ab x\n", "function zz near(x)\n", "writer ab half bin bin\n",
                        "pipe ab slow\n", "pipe zz both\n", "names\n", "delete bin\n", "# more\n", "set\n", "\n"]
        for at in range(len(lines) + 1):
            for line in more:
                self.check_wrong("".join(lines[:at] + [line] + lines[at:]))

    def test_exchanged_lines(self):
        lines = DOCUMENT.splitlines(keepends=True)
        for one, other in itertools.combinations(range(len(lines)), 2):
            changed = list(lines)
            changed[one], changed[other] = changed[other], changed[one]
            self.assertIsNotNone(self.check_wrong("".join(changed)))
        self.assertEqual(self.check_wrong("".join([lines[1], lines[0], *lines[2:]])), 1)

    def test_altered_characters(self):
        text = "set bin 2 -1 0 1\nset wide 2 -2 -1 0 1 2\nfunction half 1/2*x\nwriter up half bin wide\npipe on up\n"
        self.assertIsNone(self.check_wrong(text))
        right = 0
        for at in range(len(text) + 1):
            for sign in " \nabx120-(/A\t":
                right += self.check_wrong(text[:at] + sign + text[at + 1:]) is None
                right += self.check_wrong(text[:at] + sign + text[at:]) is None
            self.check_wrong(text[:at] + text[at + 1:])
        # Some of these changes lead to other documents.
        self.assertGreater(right, 20)

    def test_lines_that_are_not_written_so(self):
        basis = "set bin 2 -1 0 1\nfunction half 1/2*x\nwriter slow half bin bin\n"
        for line in ("set ab 2", "set ab", "set ab 02 0 1", "set ab 2 00 1", "set ab 2 -0 1", "set ab 2 1 0",
                     "set ab 2 0 0 1", "set ab 2 0  1", "set ab 2 0 1 ", " set ab 2 0 1", "set  ab 2 0 1",
                     "SET ab 2 0 1",
                     "set ab 2 +0 1", "set ab x 0 1", "set ab 11 0 1", "set ab 3 0 1", "set a 2 0 1", "set abs 2 0 1",
                     "set abcdefghi 2 0 1", "set ab 2 0 1000000", "set ab 2 0 100", "set ab 2 0 1 x", "set ab 2 0 1\t"):
            self.assertEqual(self.check_wrong(line + "\n"), 0)
            self.assertEqual(self.check_wrong("set aa 2 0 1\n" + line + "\n"), 1)
        for line in ("function", "function ab", "function ab ", "function ab  x", "function ab x ", "function ab 2/4*x",
                     "function ab (x+1)", "function ab nope(x)", "function ab ab(x)", "function half x",
                     "function ab bin(x)", "function ab slow(x)", "functions zz x"):
            self.assertEqual(self.check_wrong(basis.replace("writer", line + "\nwriter", 1)), 2)
        for line in ("writer", "writer zz", "writer zz half", "writer zz half bin", "writer zz half bin bin bin",
                     "writer zz half bin bits", "writer zz bin bin bin", "writer zz half half bin",
                     "writer slow half bin bin",
                     "writer aa half bin bin", "pipe", "pipe zz", "pipe zz ", "pipe zz nope", "pipe zz half",
                     "pipe zz zz",
                     "pipe zz" + " slow" * 7, "pipe zz slow  slow", "pipe slow slow", "pipe Zz slow"):
            self.assertEqual(self.check_wrong(basis + line + "\n"), 3)
        for line in ("pipe aa slow", "pipe zz" + " slow" * 6, "writer zz half bin bin"):
            self.assertIsNone(self.check_wrong(basis + line + "\n"))

    def test_a_set_that_is_not_redundant(self):
        text = "set bits 2 0 1\nfunction id x\nwriter ab id bits bits\n"
        self.assertEqual(self.check_wrong(text), 2)

    def test_sets_with_different_bases_and_parts_that_do_not_fit(self):
        basis = "set bin 2 -1 0 1\nset three 3 -2 -1 0 1 2\nset wide 2 -2 -1 0 1 2\nfunction id x\n"
        self.assertEqual(self.check_wrong(basis + "writer ab id bin three\n"), 4)
        self.assertEqual(self.check_wrong(basis + "writer ab id bin wide\npipe cd ab ab\n"), 5)

    def test_the_twenty_fourth_and_the_twenty_fifth_line(self):
        lines = [f"function q{letter} x\n" for letter in "abcdefghijklmnopqrstuvwxyz"]
        self.assertEqual(len(parse_workshop("".join(lines[:24]))), 24)
        self.assertEqual(self.check_wrong("".join(lines[:24])), None)
        for many in (25, 26):
            self.assertEqual(self.check_wrong("".join(lines[:many])), 24)

    def test_random_workshops(self):
        chance = random.Random(22)
        for _ in range(60):
            shop = Workshop()
            for _ in range(60):
                name = "".join(chance.choices("abz", k=chance.choice([2, 2, 3])))
                have = shop.names() or ["nope"]
                item = chance.choice([
                    ("set", 2, (-1, 0, 1)), ("set", 2, chance.sample(range(-3, 4), 4)),
                    ("function", "x"), ("function", f"({chance.choice(have)}(x) - 1/3)"),
                    ("function", f"max({chance.choice(have)}(x), {chance.choice(have)}(2))"),
                    ("writer", *chance.choices(have, k=3)), ("pipe", chance.choices(have, k=chance.choice([1, 1, 2])))])
                try:
                    shop.define(name, item)
                except (ValueError, LookupError):
                    pass
            text = format_workshop(shop)
            lines = text.splitlines()
            self.assertEqual([line.split(" ")[1] for line in lines],
                             sorted(shop.names(), key=lambda name: own_place(name, shop)))
            self.assertEqual(text, "".join([item_line(line.split(" ")[1], shop.item(line.split(" ")[1])) + "\n"
                                            for line in lines]))
            self.assertEqual(parse_workshop(text), shop)
            self.assertIsNone(self.check_wrong(text))
            one, other = sorted(chance.sample(range(len(lines)), 2))
            lines[one], lines[other] = lines[other], lines[one]
            self.check_wrong("\n".join(lines) + "\n")


if __name__ == "__main__":
    unittest.main()

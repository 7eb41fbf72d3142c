"""Promises [7] and [8]: expressions, their texts, the names in them, their values and their line functions."""

import random
import sys
import unittest
from fractions import Fraction

from earlywrite.errors import CircularName, UndefinedName
from earlywrite.expressions import (MAX_DEPTH, compile_expression, evaluate, format_expression, is_name, names_in,
                                    parse_expression)
from helpers import caught, line, pair, plain, sample_numbers, value_at

X = ("x",)
TWO_PARTS = ("add", "subtract", "max", "min")
HALF = ("half", ("multiple", (1, 2), X))


def number(value):
    return ("number", pair(value))


def call(name, part=X):
    return ("call", name, part)


def plus(*parts):
    """The sum of expressions, as shallow as possible."""
    if len(parts) == 1:
        return parts[0]
    middle = len(parts) // 2
    return ("add", plus(*parts[:middle]), plus(*parts[middle:]))


def kinks(places):
    """An expression whose line function has a corner at each of some places, so one piece more."""
    return plus(*[("abs", ("subtract", X, number(place))) for place in places])


def random_expression(chance, depth, names=("half", "clip", "zz")):
    if depth == 1 or chance.random() < 0.1:
        if chance.random() < 0.5:
            return X
        return number(Fraction(chance.choice((0, 1, -1, 7, -999999, 999999, 12)), chance.choice((1, 2, 3, 999998))))
    kind = chance.choice(TWO_PARTS + ("multiple", "abs", "call"))
    part = random_expression(chance, depth - 1, names)
    if kind in TWO_PARTS:
        return (kind, part, random_expression(chance, depth - 1, names))
    if kind == "multiple":
        return (kind, pair(Fraction(chance.choice((0, 1, -1, 3, -5)), chance.choice((1, 2, 7)))), part)
    return (kind, part) if kind == "abs" else (kind, chance.choice(names), part)


def own_evaluate(expression, at, bodies):
    """The value of an expression, with Python's own fractions."""
    kind, *rest = expression
    if kind == "x":
        return at
    if kind == "number":
        return Fraction(*rest[0])
    if kind == "multiple":
        return Fraction(*rest[0]) * own_evaluate(rest[1], at, bodies)
    if kind == "call":
        return own_evaluate(bodies[rest[0]], own_evaluate(rest[1], at, bodies), bodies)
    values = [own_evaluate(part, at, bodies) for part in rest]
    if kind == "add":
        return values[0] + values[1]
    if kind == "subtract":
        return values[0] - values[1]
    return {"max": max, "min": min, "abs": lambda one: abs(one[0])}[kind](values)


def chains(levels):
    """Expressions of a depth, made of one kind each, in which the deepest part stands on one side."""
    made = {}
    for kind in TWO_PARTS:
        for side in ("left", "right"):
            expression = X
            for _ in range(levels - 1):
                expression = (kind, expression, X) if side == "left" else (kind, number(-3), expression)
            made[f"{kind} {side}"] = expression
    for kind, begin in (("abs", ("abs",)), ("call", ("call", "half")), ("multiple", ("multiple", (-2, 3)))):
        expression = X
        for _ in range(levels - 1):
            expression = (*begin, expression)
        made[kind] = expression
    return made


class NameTest(unittest.TestCase):
    def test_example(self):
        self.assertEqual([is_name("half"), is_name("x"), is_name("max")], [True, False, False])

    def test_names(self):
        for name in ("ab", "zz", "xx", "xy", "absx", "maxi", "mi", "mina", "abcdefgh", "zzzzzzzz", "half", "add",
                     "out"):
            self.assertIs(is_name(name), True, name)

    def test_other_strings(self):
        for text in ("", "a", "x", "z", "abcdefghi", "abcdefghij", "abs", "max", "min", "Half", "HALF", "ha_f", "ha1f",
                     "1half", "half1", " half", "half ", "ha lf", "half\n", "h\u00e4lf", "\u00e4\u00e4", "ab-c", "ab(",
                     "x" * 20000):
            self.assertIs(is_name(text), False, text[:20])


class TextTest(unittest.TestCase):
    def assert_there_and_back(self, expression):
        text = format_expression(expression)
        self.assertEqual(parse_expression(text), expression)
        self.assertEqual(format_expression(parse_expression(text)), text)

    def test_constant(self):
        self.assertEqual(MAX_DEPTH, 12)

    def test_examples(self):
        self.assertEqual(parse_expression("max(1/2*x, (x - 1))"),
                         ("max", ("multiple", (1, 2), ("x",)), ("subtract", ("x",), ("number", (1, 1)))))
        self.assertEqual(caught(parse_expression, "max(x, 2/4)"), ("InvalidText", 9))
        self.assertEqual(format_expression(("add", ("abs", ("x",)), ("call", "half", ("number", (-1, 3))))),
                         "(abs(x) + half(-1/3))")

    def test_every_kind(self):
        for text, expression in {
            "x": X, "0": ("number", (0, 1)), "7": ("number", (7, 1)), "-7": ("number", (-7, 1)),
            "999999": ("number", (999999, 1)), "-999999/999998": ("number", (-999999, 999998)),
            "1/2": ("number", (1, 2)), "10/7": ("number", (10, 7)), "1/100000": ("number", (1, 100000)),
            "(x + 1)": ("add", X, ("number", (1, 1))), "(x - -1)": ("subtract", X, ("number", (-1, 1))),
            "(-1 - x)": ("subtract", ("number", (-1, 1)), X),
            "0*x": ("multiple", (0, 1), X), "-1/2*-1/2": ("multiple", (-1, 2), ("number", (-1, 2))),
            "2*3*x": ("multiple", (2, 1), ("multiple", (3, 1), X)), "2*(x + x)": ("multiple", (2, 1), ("add", X, X)),
            "max(x, 0)": ("max", X, ("number", (0, 1))), "min(0, x)": ("min", ("number", (0, 1)), X),
            "abs(x)": ("abs", X), "ab(x)": ("call", "ab", X), "abcdefgh(x)": ("call", "abcdefgh", X),
            "xx(x)": ("call", "xx", X), "maxi(x)": ("call", "maxi", X),
            "ab(cd(ab(x)))": call("ab", call("cd", call("ab"))),
            "((x + x) - (x - x))": ("subtract", ("add", X, X), ("subtract", X, X)),
        }.items():
            self.assertEqual(parse_expression(text), expression, text)
            self.assertEqual(format_expression(expression), text)

    def test_many_expressions(self):
        chance = random.Random(1)
        for _ in range(300):
            self.assert_there_and_back(random_expression(chance, chance.randint(1, 7)))

    def test_a_long_text(self):
        expression = X
        for _ in range(MAX_DEPTH - 1):
            expression = ("add", expression, expression)
        self.assertEqual(len(format_expression(expression)), 2 ** 11 + 5 * (2 ** 11 - 1))
        self.assert_there_and_back(expression)

    def test_chains_of_twelve_levels(self):
        for name, expression in chains(12).items():
            with self.subTest(name):
                self.assert_there_and_back(expression)

    def test_chains_of_thirteen_levels(self):
        for name, expression in chains(13).items():
            with self.subTest(name):
                text = format_expression(expression)
                # The first part inside of 12 others is the one at the deepest place, or the number beside it.
                begin = {"add left": "(", "subtract left": "(", "max left": "max(", "min left": "min(", "abs": "abs(",
                         "call": "half(", "multiple": "-2/3*", "add right": "(-3 + ", "subtract right": "(-3 - ",
                         "max right": "max(-3, ", "min right": "min(-3, "}[name]
                position = 12 * len(begin)
                if "right" in name:
                    position = 11 * len(begin) + begin.index("-3")
                self.assertEqual(caught(parse_expression, text), ("InvalidText", position))

    def test_a_part_that_is_too_deep_is_reported_whatever_it_is(self):
        for inner in ("x", "1", "-0", "abs(x)", "?", "", "toolongname(x)", "(", "2/4", "1234567"):
            text = "abs(" * 12 + inner
            self.assertEqual(caught(parse_expression, text), ("InvalidText", 48), inner)
        for inner, behind in (("7*x", 2), ("-1/2*x", 5), ("ab(x)", 3), ("(x + x)", 1), ("max(x, x)", 4), ("7*", 2)):
            self.assertEqual(caught(parse_expression, "abs(" * 11 + inner), ("InvalidText", 44 + behind), inner)
        self.assertEqual(parse_expression("abs(" * 11 + "-1/2" + ")" * 11)[0], "abs")


class InvalidTextTest(unittest.TestCase):
    def assert_position(self, text, position):
        with self.subTest(text):
            self.assertEqual(caught(parse_expression, text), ("InvalidText", position))

    def test_the_empty_string(self):
        self.assert_position("", 0)

    def test_fractions(self):
        for text, position in (
            ("01", 1), ("00", 1), ("007", 1), ("0123456", 1), ("-0", 1), ("-01", 1), ("-00", 1), ("-0/5", 1),
            ("-0*x", 1),
            ("-", 1), ("--1", 1), ("-x", 1), ("-/2", 1), ("+1", 0), ("1234567", 6), ("-1234567", 7), ("1000000*x", 6),
            ("1/", 2), ("1/x", 2), ("1/-2", 2), ("1/0", 2), ("1/1", 2), ("1/0*x", 2), ("5/1*x", 2), ("2/4", 2),
            ("-2/4", 3), ("6/9", 2), ("7/7", 2), ("12/999999", 3), ("0/5", 2), ("0/7*x", 2), ("0/1", 2), ("0/0", 2),
            ("0/", 2),
            ("1/02", 3), ("1/00", 3), ("0/01", 3), ("2/04", 3), ("1/0123456", 3), ("1/1234567", 8), ("2/1234568", 8),
            ("0/1234567", 8), ("1234567/2", 6), ("1234567/1234567", 6), ("1/2/3", 3), ("1//2", 2), ("1.5", 1),
            ("1 ", 1),
            ("1/2 ", 3), ("1x", 1), ("1*", 2), ("1**x", 2), ("1* x", 2), ("1 *x", 1), ("999999/1000000", 13),
            ("\u0661", 0), ("1\u0662", 1),
        ):
            self.assert_position(text, position)

    def test_the_same_fractions_inside(self):
        for text, position in (("01", 1), ("-0", 1), ("-01", 1), ("1234567", 6), ("1/0", 2), ("1/1", 2), ("2/4", 2),
                               ("1/02", 3),
                               ("2/1234568", 8), ("0/5", 2)):
            self.assert_position(f"max(x, {text})", 7 + position)
            self.assert_position(f"(x - {text}*x)", 5 + position)

    def test_words(self):
        for text, position in (
            ("a", 0), ("y", 0), ("y(x)", 0), ("abcdefghi(x)", 0), ("abcdefghij", 0), ("max(x, y)", 7),
            ("(x + toolongname(x))", 5),
            ("z" * 20000, 0), ("x(x)", 1), ("xx", 2), ("ab", 2), ("abs", 3), ("max", 3), ("min", 3), ("ma", 2),
            ("m", 0),
            ("ab x", 2), ("ab1(x)", 2), ("abA(x)", 2), ("Ab(x)", 0), ("X", 0), ("x1", 1), ("xX", 1), ("abs x", 3),
            ("abs[x]", 3),
            ("ab()", 3), ("ab(x", 4), ("ab(x,", 4), ("ab(x, x)", 4), ("abs(x, x)", 5), ("max(x)", 5), ("min(x,x)", 6),
            ("max(x,  x)", 7), ("max(x , x)", 5), ("max(x, x, x)", 8), ("max( x, x)", 4), ("max(x, x )", 8),
        ):
            self.assert_position(text, position)

    def test_sums(self):
        for text, position in (
            ("(", 1), ("()", 1), ("(x", 2), ("(x)", 2), ("(x ", 3), ("(x )", 3), ("(x+x)", 2), ("(x +x)", 4),
            ("(x + )", 5),
            ("(x  + x)", 3), ("(x * x)", 3), ("(x / x)", 3), ("(x + x", 6), ("(x + x ", 6), ("(x + x))", 7),
            ("(x + x + x)", 6),
            ("( x + x)", 1), (" x", 0), ("x ", 1), ("x\n", 1), ("x)", 1), ("x + x", 1), (")", 0), ("*x", 0), ("/2", 0),
            (",", 0),
            ("x*2", 1), ("(x + x)*2", 7), ("-(x + x)", 1), ("-abs(x)", 1), ("2(x + x)", 1), ("(x -x)", 4),
            ("(x - x(", 6),
        ):
            self.assert_position(text, position)

    def test_cut_texts(self):
        for text in ("max(1/23*x, (half(x) - abs(-37)))", "(100003/234567*clip((x + 0)) - min(-1, 2*xx(x)))"):
            parse_expression(text)
            for end in range(len(text)):
                part = text[:end]
                word = part[len(part.rstrip("abcdefghijklmnopqrstuvwxyz")):]
                unfinished = word and word not in ("x", "abs", "max", "min") and not is_name(word)
                self.assert_position(part, end - len(word) if unfinished else end)

    def test_a_character_too_many(self):
        for text in ("max(1/2*x, (x - 1))", "(x + x)", "ab(x)", "abs(x)"):
            for sign in "x1 )(*/-+,.a\n":
                self.assert_position(text + sign, len(text))
        for sign in " )(*/-+,.A\n1":
            self.assert_position("x" + sign, 1)
        for sign in " )(-+,.x":
            self.assert_position("12" + sign, 2)

    def test_the_first_fault_counts(self):
        self.assert_position("(01 + y)", 2)
        self.assert_position("(y + 01)", 1)
        self.assert_position("max(2/4, toolongname", 6)


class NamesInTest(unittest.TestCase):
    def test_example(self):
        self.assertEqual(names_in(("call", "half", ("call", "clip", ("call", "half", ("x",))))), ["clip", "half"])

    def test_names(self):
        self.assertEqual(names_in(X), [])
        self.assertEqual(names_in(("max", ("abs", X), number(1))), [])
        self.assertEqual(names_in(plus(call("cc"), call("aa"), ("multiple", (0, 1), call("bb", call("aa"))),
                                       number(3))),
                         ["aa", "bb", "cc"])
        for kind in TWO_PARTS:
            self.assertEqual(names_in((kind, call("zz"), ("abs", call("yy")))), ["yy", "zz"])

    def test_names_are_not_followed(self):
        returned = names_in(call("zz"))
        returned.append("changed")
        self.assertEqual(names_in(call("zz")), ["zz"])


class EvaluateTest(unittest.TestCase):
    def test_example(self):
        self.assertEqual(evaluate(parse_expression("half((x + 1))"), (1, 3), definitions=[HALF]), (2, 3))

    def test_every_kind(self):
        for text, at, expected in (
            ("x", (-3, 7), (-3, 7)), ("5", (1, 2), (5, 1)), ("(x + 1/2)", (1, 3), (5, 6)),
            ("(x - 1/2)", (1, 3), (-1, 6)),
            ("-2/3*x", (3, 4), (-1, 2)), ("0*x", (3, 4), (0, 1)), ("max(x, 1/2)", (1, 3), (1, 2)),
            ("max(x, 1/4)", (1, 3), (1, 3)),
            ("min(x, 1/2)", (1, 3), (1, 3)), ("min(x, 1/4)", (1, 3), (1, 4)), ("abs(x)", (-1, 3), (1, 3)),
            ("abs(x)", (1, 3), (1, 3)),
            ("abs(x)", (0, 1), (0, 1)), ("(x - x)", (1, 3), (0, 1)), ("max(x, x)", (1, 3), (1, 3)),
        ):
            self.assertEqual(evaluate(parse_expression(text), at), expected, text)

    def test_many_expressions(self):
        chance = random.Random(2)
        for _ in range(60):
            bodies = {"zz": parse_expression("abs((x - 2))"), "half": ("multiple", (1, 2), call("zz")),
                      "clip": ("max", ("min", X, call("half")), number(-1))}
            expression = random_expression(chance, chance.randint(1, 6))
            for at in (Fraction(0), Fraction(-5, 3), Fraction(7, 2)):
                expected = pair(own_evaluate(expression, at, bodies))
                self.assertEqual(evaluate(expression, pair(at), definitions=list(bodies.items())), expected)
                self.assertEqual(evaluate(expression, pair(at), definitions=tuple(bodies.items())), expected)

    def test_definitions_that_are_not_called(self):
        self.assertEqual(evaluate(X, (1, 3), definitions=[("aa", call("aa")), ("bb", call("cc"))]), (1, 3))
        self.assertEqual(compile_expression(X, (0, 1), (1, 1), definitions=[("aa", call("aa"))]), line((0, 0), (1, 1)))

    def test_names_that_are_called_repeatedly(self):
        twice = [("aa", plus(X, number(1)))]
        for before, name in zip(["aa", "ab", "ac", "ad"], ["ab", "ac", "ad", "ae"]):
            twice.append((name, call(before, call(before))))
        self.assertEqual(evaluate(plus(call("ae"), call("ae")), (1, 2), definitions=twice), (33, 1))

    def test_calls_that_become_very_many(self):
        names = [f"f{chr(97 + k)}" for k in range(24)]
        definitions = [(names[0], X)] + [(name, plus(call(before), call(before)))
                                         for before, name in zip(names, names[1:])]
        self.assertEqual(evaluate(call(names[-1]), (1, 3), definitions=definitions), (2 ** 23, 3))
        self.assertEqual(compile_expression(call(names[-1]), (0, 1), (1, 1), definitions=definitions),
                         line((0, 0), (1, 2 ** 23)))

    def test_deep_definitions_need_no_deep_recursion(self):
        names = [f"f{chr(97 + k)}" for k in range(24)]
        definitions = []
        for before, name in zip(["zz"] + names, names):
            body = call(before) if before != "zz" else X
            for _ in range(9):
                body = ("add", body, number(1))
            definitions.append((name, body))
        frame, depth = sys._getframe(), 0
        while frame:
            frame, depth = frame.f_back, depth + 1
        limit = sys.getrecursionlimit()
        sys.setrecursionlimit(depth + 300)
        try:
            self.assertEqual(evaluate(call(names[-1]), (1, 2), definitions=definitions), (433, 2))
            self.assertEqual(compile_expression(call(names[-1]), (0, 1), (1, 1), definitions=definitions),
                             line((0, 216), (1, 217)))
        finally:
            sys.setrecursionlimit(limit)


class FollowTest(unittest.TestCase):
    def assert_error(self, expected, expression, definitions):
        for given in (list(definitions), tuple(definitions)):
            self.assertEqual(caught(evaluate, expression, (1, 2), definitions=given), expected)
            self.assertEqual(caught(compile_expression, expression, (0, 1), (1, 1), definitions=given), expected)
            # These errors come before the one about the interval.
            self.assertEqual(caught(compile_expression, expression, (1, 1), (1, 1), definitions=given), expected)

    def test_missing_names(self):
        self.assert_error(("UndefinedName", "aa"), call("aa"), [])
        self.assert_error(("UndefinedName", "bb"), call("aa"), [("aa", call("bb"))])
        self.assert_error(("UndefinedName", "bb"), plus(call("aa"), call("bb")), [("aa", X)])
        self.assertEqual(caught(evaluate, call("aa"), (1, 2)), ("UndefinedName", "aa"))
        self.assertEqual(caught(compile_expression, call("aa"), (0, 1), (1, 1)), ("UndefinedName", "aa"))
        with self.assertRaises(UndefinedName):
            evaluate(call("aa"), (1, 2))

    def test_circular_names(self):
        self.assert_error(("CircularName", "aa"), call("aa"), [("aa", call("aa"))])
        self.assert_error(("CircularName", "aa"), call("aa"), [("aa", call("bb")), ("bb", call("aa"))])
        self.assert_error(("CircularName", "bb"), call("aa"), [("aa", call("bb")), ("bb", call("bb"))])
        self.assert_error(("CircularName", "bb"), call("aa"), [("aa", call("bb")), ("bb", call("cc")),
                                                               ("cc", call("bb"))])
        with self.assertRaises(CircularName):
            evaluate(call("aa"), (1, 2), definitions=[("aa", call("aa"))])

    def test_whichever_comes_first(self):
        circle = ("aa", call("aa"))
        self.assert_error(("UndefinedName", "zz"), plus(call("zz"), call("aa")), [circle])
        self.assert_error(("CircularName", "aa"), plus(call("aa"), call("zz")), [circle])
        # Behind a name come the names of its definition, before its argument.
        self.assert_error(("CircularName", "aa"), call("aa", call("zz")), [circle])
        self.assert_error(("UndefinedName", "zz"), call("zz", call("aa")), [circle])
        self.assert_error(("UndefinedName", "yy"), call("bb", call("zz")), [("bb", call("yy"))])
        self.assert_error(("UndefinedName", "zz"), call("bb"), [("bb", plus(call("zz"), call("bb")))])
        self.assert_error(("CircularName", "bb"), call("bb"), [("bb", plus(call("bb"), call("zz")))])
        self.assert_error(("CircularName", "bb"), call("bb"), [("bb", call("cc", call("zz"))), ("cc", call("bb"))])

    def test_order_of_every_kind(self):
        for kind in TWO_PARTS:
            self.assert_error(("UndefinedName", "yy"), (kind, ("abs", call("yy")), call("aa")), [])
            self.assert_error(("UndefinedName", "aa"), (kind, call("aa"), call("yy")), [])
        self.assert_error(("UndefinedName", "yy"), ("multiple", (0, 1), call("yy", call("aa"))), [])

    def test_names_that_were_followed_before(self):
        # A name that is called twice, or in the definition of another one, is not circular.
        definitions = [("aa", X), ("bb", plus(call("aa"), call("aa"))), ("cc", plus(call("bb"), call("aa")))]
        self.assertEqual(evaluate(plus(call("aa"), call("cc"), call("bb"), call("cc", call("cc"))), (1, 1),
                                  definitions=definitions), (1 + 3 + 2 + 9, 1))

    def test_names_in_parts_that_do_not_matter(self):
        self.assert_error(("UndefinedName", "zz"), ("multiple", (0, 1), call("zz")), [])
        self.assert_error(("UndefinedName", "zz"), call("aa", number(1)), [("aa", call("zz"))])


class CompileTest(unittest.TestCase):
    def assert_compiled(self, expression, low, high, definitions=()):
        function = compile_expression(expression, pair(low), pair(high), definitions=definitions)
        self.assertEqual((function.low(), function.high()), (pair(low), pair(high)))
        for at in sample_numbers(function, parts=30):
            self.assertEqual(function.value(pair(at)), evaluate(expression, pair(at), definitions=definitions))
            self.assertEqual(value_at(plain(function), at), own_evaluate(expression, at, dict(definitions)))
        return function

    def test_example(self):
        self.assertEqual(compile_expression(parse_expression("abs(x)"), (-1, 1), (2, 1)).points(),
                         [((-1, 1), (1, 1)), ((0, 1), (0, 1)), ((2, 1), (2, 1))])

    def test_every_kind(self):
        for text in ("x", "3/2", "(x + 1/2)", "(x - 1/2)", "(1/2 - x)", "-2/3*x", "0*x", "max(x, 1/2)", "max(x, -1*x)",
                     "min(x, 1/2)", "min(1/3*x, (x - 1))", "abs(x)", "abs((abs(x) - 1))", "half(x)",
                     "half(half((x - 1)))",
                     "tent((2*x - 1/3))", "tent(tent(x))", "tent(7)", "(tent(x) - tent(-1*x))"):
            definitions = [HALF, ("tent", parse_expression("max(0, min((x + 1), (1 - x)))"))]
            for low, high in ((-1, 2), (Fraction(-7, 3), Fraction(-1, 5)), (0, Fraction(1, 9))):
                self.assert_compiled(parse_expression(text), low, high, definitions)

    def test_many_expressions(self):
        chance = random.Random(3)
        compiled = 0
        for _ in range(120):
            bodies = [("zz", parse_expression("abs((x - 2))")), ("half", ("multiple", (1, 2), call("zz"))),
                      ("clip", ("max", ("min", X, call("half")), number(-1)))]
            expression = random_expression(chance, chance.randint(2, 6))
            try:
                self.assert_compiled(expression, -3, 4, bodies)
                compiled += 1
            except ValueError as error:
                self.assertEqual(getattr(error, "limit", error), 12)
        self.assertGreater(compiled, 60)

    def test_low_that_is_not_less_than_high(self):
        for expression in (X, number(3), ("abs", X), call("half"), kinks(range(13))):
            for low, high in (((1, 1), (1, 1)), ((1, 1), (0, 1)), ((1, 2), (1, 3)), ((0, 1), (-1, 1))):
                self.assertEqual(caught(compile_expression, expression, low, high, definitions=[HALF]),
                                 ("InvalidPoints",))

    def assert_limit(self, expression, low, high, definitions=()):
        self.assertEqual(caught(compile_expression, expression, pair(low), pair(high), definitions=definitions),
                         ("LimitReached", 12))

    def test_twelve_and_thirteen_pieces_of_the_whole(self):
        self.assertEqual(len(self.assert_compiled(kinks(range(1, 12)), 0, 12)), 12)
        self.assert_limit(kinks(range(1, 13)), 0, 13)
        # On a smaller interval the same expression has fewer pieces.
        self.assertEqual(len(self.assert_compiled(kinks(range(1, 13)), 0, 12)), 12)

    def test_twelve_and_thirteen_pieces_of_a_part(self):
        for wrap in (lambda part: ("multiple", (0, 1), part), lambda part: ("subtract", part, part),
                     lambda part: ("min", part, number(-1)), lambda part: ("max", number(999), part)):
            self.assertEqual(len(self.assert_compiled(wrap(kinks(range(1, 12))), 0, 12)), 1)
            self.assert_limit(wrap(kinks(range(1, 13))), 0, 13)
            self.assert_limit(("abs", wrap(kinks(range(1, 13)))), 0, 13)

    def test_twelve_and_thirteen_pieces_of_a_definition(self):
        definitions = [("many", kinks(range(1, 13))), ("none", ("multiple", (0, 1), kinks(range(1, 13))))]
        for name in ("many", "none"):
            self.assert_limit(call(name), 0, 13, definitions)
            self.assert_limit(("multiple", (0, 1), call(name)), 0, 13, definitions)
            self.assert_limit(call(name, ("multiple", (2, 1), X)), 0, Fraction(13, 2), definitions)
            # The definition gets only the values of the argument.
            self.assert_compiled(call(name), 0, 12, definitions)
            self.assert_compiled(call(name, ("multiple", (1, 2), X)), 0, 13, definitions)
            self.assert_compiled(call(name, ("min", X, number(11))), 0, 13, definitions)
            self.assert_limit(call(name, ("min", X, number(13))), 0, 13, definitions)
            self.assert_limit(call(name, ("subtract", number(13), X)), 0, 13, definitions)

    def test_pieces_of_an_argument(self):
        definitions = [("zero", number(0)), ("half", HALF[1])]
        for name in ("zero", "half"):
            self.assert_compiled(call(name, kinks(range(1, 12))), 0, 12, definitions)
            self.assert_limit(call(name, kinks(range(1, 13))), 0, 13, definitions)

    def test_pieces_of_a_call_whose_parts_are_small(self):
        tooth = [("tooth", parse_expression("min((3*x - 1), (1 - x))"))]
        six = line(*[(k, k % 2) for k in range(7)])
        inner = ("subtract", ("subtract", X, ("multiple", (2, 1), plus(*[("max", number(0), ("subtract", X, number(k)))
                                                                         for k in (1, 3, 5)]))),
                 ("multiple", (-2, 1), plus(*[("max", number(0), ("subtract", X, number(k))) for k in (2, 4, 6)])))
        self.assertEqual(compile_expression(inner, (0, 1), (6, 1)), six)
        self.assertEqual(len(self.assert_compiled(call("tooth", inner), 0, 6, tooth)), 12)
        self.assert_limit(call("tooth", inner), 0, 7, tooth)

    def test_a_constant_argument(self):
        definitions = [("many", kinks(range(1, 13))), ("deep", call("many", ("multiple", (20, 1), X)))]
        for argument in (number(5), ("multiple", (0, 1), X), ("subtract", X, X), ("min", X, number(-3))):
            for name in ("many", "deep"):
                function = self.assert_compiled(call(name, argument), 0, 13, definitions)
                self.assertEqual(len(function), 1)
        self.assert_limit(call("many", ("multiple", (0, 1), kinks(range(1, 13)))), 0, 13, definitions)
        self.assert_limit(call("deep"), 0, 13, definitions)

    def test_a_call_in_a_definition_with_a_constant_argument(self):
        definitions = [("many", kinks(range(1, 13))), ("level", ("add", call("many", number(3)), X))]
        self.assert_compiled(call("level"), 0, 13, definitions)

    def test_arguments_that_are_changed_afterwards(self):
        definitions = [HALF]
        function = compile_expression(call("half"), (0, 1), (1, 1), definitions=definitions)
        definitions[0] = ("half", X)
        definitions.append(("zz", X))
        self.assertEqual(function, line((0, 0), (1, Fraction(1, 2))))
        self.assertEqual(definitions, [("half", X), ("zz", X)])


if __name__ == "__main__":
    unittest.main()

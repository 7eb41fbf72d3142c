"""Promises [1] and [2]: exact results, arguments that are copied and never modified, documented names."""

import copy
import inspect
import unittest
from fractions import Fraction

from earlywrite import delays, digits, documents, expressions, lines, machines, rationals, remaining, runs, workshop
from earlywrite.console import Console
from earlywrite.delays import check_refutation, check_table, count_states, decide, least_delay
from earlywrite.digits import DigitSet, combined
from earlywrite.errors import InvalidPoints, InvalidRow, OutOfRange
from earlywrite.expressions import compile_expression, evaluate, names_in, parse_expression
from earlywrite.lines import LineFunction, add_lines, compose_lines, max_lines, restrict_line, scale_line, straight
from earlywrite.machines import Machine, compose, find_unlike, judge, machine_of, trim
from earlywrite.remaining import after_read, after_write
from earlywrite.runs import Run
from earlywrite.workshop import Workshop
from helpers import BINARY, WIDE, caught, line, pair, points, shop_with, told

ROWS = points([(0, 0), (1, 3), (2, 2)])

FUNCTIONS = {
    rationals: {"fraction": "numerator, denominator=1", "fraction_text": "value"},
    digits: {"combined": "sets, factors"},
    lines: {
        "straight": "slope, offset, low, high", "add_lines": "one, other", "max_lines": "one, other",
        "min_lines": "one, other", "scale_line": "function, factor", "abs_line": "function",
        "restrict_line": "function, low, high", "compose_lines": "outer, inner",
    },
    expressions: {
        "is_name": "text", "parse_expression": "text", "format_expression": "expression", "names_in": "expression",
        "evaluate": "expression, number, *, definitions=()",
        "compile_expression": "expression, low, high, *, definitions=()",
    },
    remaining: {
        "after_read": "function, read, digit", "after_write": "function, write, digit", "is_safe": "function, write",
    },
    delays: {
        "count_states": "function, read, write, delay, *, limit=400",
        "decide": "function, read, write, delay, *, limit=400",
        "least_delay": "function, read, write, *, first=-6, last=9, limit=400",
        "check_table": "function, read, write, delay, table",
        "check_refutation": "function, read, write, delay, refutation",
    },
    machines: {
        "machine_of": "table, read, write, delay", "judge": "machine, function, *, limit=3000",
        "find_unlike": "one, other, *, limit=3000", "compose": "first, second", "trim": "machine",
    },
    documents: {"item_line": "name, item", "format_workshop": "workshop", "parse_workshop": "text"},
}
CONSTANTS = {
    digits: {"MAX_DIGITS": 24, "MAX_DIGIT": 99, "MAX_ROW": 200}, lines: {"MAX_PIECES": 12},
    expressions: {"MAX_DEPTH": 12},
    delays: {"MIN_DELAY": -6, "MAX_DELAY": 9, "MAX_STATES": 400},
    machines: {"MAX_MACHINE_DELAY": 60, "MAX_PAIRS": 3000}, workshop: {"MAX_NAMES": 24},
}
METHODS = {
    DigitSet: {
        "__init__": "self, base, digits", "low": "self", "high": "self", "is_redundant": "self",
        "value": "self, row", "row_of": "self, number, count",
    },
    LineFunction: {
        "__init__": "self, points", "points": "self", "low": "self", "high": "self", "least": "self",
        "greatest": "self", "value": "self, number",
    },
    Machine: {
        "__init__": "self, read, write, delay, states", "__len__": "self", "__eq__": "self, other", "__repr__": "self",
        "read_set": "self", "write_set": "self", "delay": "self", "states": "self", "run": "self, row",
    },
    Run: {
        "__init__": "self, machine", "__len__": "self", "__eq__": "self, other", "__repr__": "self", "read": "self",
        "written": "self", "feed": "self, digit", "undo": "self", "bounds": "self", "clone": "self",
    },
    Workshop: {
        "__init__": "self", "__len__": "self", "__eq__": "self, other", "__repr__": "self",
        "define": "self, name, item",
        "redefine": "self, name, item", "delete": "self, name", "batch": "self, commands", "undo": "self",
        "redo": "self",
        "history": "self", "names": "self", "item": "self, name", "function_of": "self, name", "machine": "self, name",
        "delay": "self, name", "slack": "self, name", "start_run": "self, name", "cached": "self",
        "computations": "self", "clone": "self",
    },
    Console: {
        "__init__": "self, workshop=None", "execute": "self, line", "workshop": "self", "transcript": "self",
    },
}


class InterfaceTest(unittest.TestCase):
    def test_functions(self):
        for module, functions in FUNCTIONS.items():
            for name, parameters in functions.items():
                with self.subTest(name):
                    self.assertEqual(str(inspect.signature(getattr(module, name))), f"({parameters})")

    def test_methods_stand_in_their_class(self):
        for owner, methods in METHODS.items():
            for name, parameters in methods.items():
                with self.subTest(f"{owner.__name__}.{name}"):
                    self.assertEqual(str(inspect.signature(vars(owner)[name])), f"({parameters})")

    def test_constants(self):
        for module, constants in CONSTANTS.items():
            for name, value in constants.items():
                self.assertEqual(getattr(module, name), value)


class KeywordsTest(unittest.TestCase):
    """Every function and method of the package with keywords, in the documented order and in the opposite one."""

    def calls(self):
        """For each documented callable a list of arguments by name."""
        half = straight((1, 2), (0, 1), (-2, 1), (2, 1))
        one = straight((1, 1), (0, 1), (-1, 1), (1, 1))
        given = {"function": half, "read": WIDE, "write": BINARY}
        delay, table, refutation = least_delay(**given)
        machine = machine_of(table, WIDE, BINARY, 1)
        minus = Machine(BINARY, BINARY, 0, [(0, [(1, 0), (0, 0), (-1, 0)])])
        call = parse_expression("half((x + 1))")
        bodies = [("half", parse_expression("1/2*x"))]
        return {
            "fraction": {"numerator": 6, "denominator": -4}, "fraction_text": {"value": (-3, 2)},
            "combined": {"sets": [BINARY, BINARY], "factors": [1, -2]},
            "straight": {"slope": (1, 2), "offset": (1, 3), "low": (0, 1), "high": (2, 1)},
            "add_lines": {"one": one, "other": one}, "max_lines": {"one": one, "other": one},
            "min_lines": {"one": one, "other": one}, "scale_line": {"function": one, "factor": (-1, 2)},
            "abs_line": {"function": one}, "restrict_line": {"function": half, "low": (-1, 1), "high": (3, 2)},
            "compose_lines": {"outer": one, "inner": half}, "is_name": {"text": "half"},
            "parse_expression": {"text": "max(x, 1/2)"}, "format_expression": {"expression": call},
            "names_in": {"expression": call},
            "evaluate": {"expression": call, "number": (1, 3), "definitions": bodies},
            "compile_expression": {"expression": call, "low": (-1, 1), "high": (1, 1), "definitions": bodies},
            "after_read": {"function": half, "read": WIDE, "digit": -2},
            "after_write": {"function": half, "write": BINARY, "digit": 1},
            "is_safe": {"function": half, "write": BINARY},
            "count_states": {**given, "delay": 1, "limit": 6}, "decide": {**given, "delay": 0, "limit": 5},
            "least_delay": {**given, "first": 0, "last": 2, "limit": 100},
            "check_table": {**given, "delay": 1, "table": table},
            "check_refutation": {**given, "delay": 0, "refutation": refutation},
            "machine_of": {"table": table, "read": WIDE, "write": BINARY, "delay": 1},
            "judge": {"machine": machine, "function": half, "limit": 50},
            "find_unlike": {"one": machine, "other": trim(machine), "limit": 70},
            "compose": {"first": machine, "second": minus}, "trim": {"machine": machine},
            "item_line": {"name": "bin", "item": ("set", 2, (1, 0))}, "format_workshop": {"workshop": shop_with()},
            "parse_workshop": {"text": "set bin 2 -1 0 1\n"},
        }

    def objects(self):
        """For each class the arguments of its objects, and for each method the arguments of a call."""
        minus = Machine(BINARY, BINARY, 0, [(0, [(1, 0), (0, 0), (-1, 0)])])
        named = {name: {"name": "trip"} for name in ("item", "function_of", "machine", "delay", "slack", "start_run")}
        return {
            DigitSet: ({"base": 2, "digits": [1, 0, -1]},
                       {"value": {"row": (1, -1)}, "row_of": {"number": (1, 3), "count": 4}}),
            LineFunction: ({"points": ROWS}, {"value": {"number": (1, 3)}}),
            Machine: ({"read": BINARY, "write": WIDE, "delay": 0, "states": [(0, [(2, 0), (0, 0), (-2, 0)])]},
                      {"run": {"row": (1, 0)}}),
            Run: ({"machine": minus}, {"feed": {"digit": 1}}),
            Workshop: ({}, {"define": {"name": "new", "item": ("function", "x")},
                            "redefine": {"name": "half", "item": ("function", "1/4*x")}, "delete": {"name": "long"},
                            "batch": {"commands": [("delete", "long")]}, **named}),
            Console: ({"workshop": shop_with()}, {"execute": {"line": "names"}}),
        }

    def backwards(self, keywords):
        return dict(reversed(list(keywords.items())))

    def test_functions(self):
        calls = self.calls()
        self.assertEqual(sorted(calls), sorted([name for functions in FUNCTIONS.values() for name in functions]))
        for module, functions in FUNCTIONS.items():
            for name, parameters in functions.items():
                with self.subTest(name):
                    function, keywords = getattr(module, name), calls[name]
                    behind = parameters.partition("*, ")[2].split(", ") if "*" in parameters else []
                    only = {key: value for key, value in keywords.items() if any(part.startswith(key + "=")
                                                                                 for part in behind)}
                    plain = [value for key, value in keywords.items() if key not in only]
                    expected = function(*plain, **only)
                    self.assertEqual(function(**keywords), expected)
                    self.assertEqual(function(**self.backwards(keywords)), expected)
                    for value in only.values():
                        self.assertRaises(TypeError, function, *plain, value)

    def test_classes_and_methods(self):
        for owner, (given, methods) in self.objects().items():
            self.assertEqual(vars(owner(**self.backwards(given))).keys(), vars(owner(*given.values())).keys())
            for name, parameters in METHODS[owner].items():
                if name.startswith("__"):
                    continue
                with self.subTest(f"{owner.__name__}.{name}"):
                    keywords = methods.get(name, {})
                    self.assertEqual(len(keywords), parameters.count(","))
                    made = [shop_with() if owner is Workshop else owner(**given) for _ in range(3)]
                    for each in made:
                        if name == "undo" and owner is Run:
                            each.feed(1)
                        if name == "redo":
                            each.undo()
                    results = [getattr(made[0], name)(*keywords.values()), getattr(made[1], name)(**keywords),
                               getattr(made[2], name)(**self.backwards(keywords))]
                    self.assertEqual(results[1:], results[:1] * 2)

    def test_defaults_may_be_omitted(self):
        half = straight((1, 2), (0, 1), (-2, 1), (2, 1))
        self.assertEqual(rationals.fraction(7), (7, 1))
        self.assertEqual(evaluate(parse_expression("x"), (1, 3)), (1, 3))
        self.assertEqual(compile_expression(parse_expression("x"), (0, 1), (1, 1)).value((1, 2)), (1, 2))
        self.assertEqual(count_states(half, WIDE, BINARY, 1), 6)
        self.assertEqual(least_delay(half, WIDE, BINARY, last=5)[0], 1)
        self.assertEqual(Console().execute("names"), "none")


class QueriesTest(unittest.TestCase):
    """A query that is repeated answers the same and changes nothing."""

    def test_workshops(self):
        shop = shop_with()
        shop.undo()
        shop.machine("trip")
        before = told(shop)
        for name, *rest in (("names",), ("item", "bin"), ("item", "trip"), ("history",), ("cached",), ("computations",),
                            ("function_of", "trip"), ("machine", "trip"), ("delay", "trip"), ("slack", "trip"),
                            ("start_run", "trip"), ("clone",), ("__len__",), ("__repr__",)):
            query = getattr(shop, name)
            self.assertEqual(query(*rest), query(*rest))
            self.assertEqual(told(shop), before)
        self.assertEqual(documents.format_workshop(shop), documents.format_workshop(shop))
        self.assertEqual(told(shop), before)

    def test_runs(self):
        run = runs.Run(Machine(BINARY, BINARY, -1, [(1, (1, 1)), (0, [(-1, 1), (0, 1), (1, 1)])]))
        run.feed(1)
        for name in ("read", "written", "bounds", "clone", "__len__", "__repr__"):
            query = getattr(run, name)
            self.assertEqual(query(), query())
            self.assertEqual((run.read(), run.written()), ((1,), (1, 1)))

    def test_consoles(self):
        console = Console(shop_with())
        for text in ("names", "show trip", "delay trip", "slack trip", "states trip", "run trip 1 0 -1", "nonsense"):
            self.assertEqual(console.execute(text), console.execute(text))
            self.assertEqual(console.workshop().history(), (12, 0))
        before = console.transcript()
        for query in (console.workshop, console.transcript):
            self.assertEqual(query(), query())
        self.assertEqual((console.transcript(), console.workshop()), (before, shop_with()))

    def test_objects_do_not_influence_each_other(self):
        shop = shop_with()
        machine, run, twin, console = shop.machine("slow"), shop.start_run("slow"), shop.clone(), Console(shop)
        before = (machine.states(), machine.run((1, 0)), told(twin))
        run.feed(1)
        run.undo()
        console.execute("delete long")
        shop.redefine("half", ("function", "0"))
        shop.machine("slow")
        machine.states().clear()
        self.assertEqual((machine.states(), machine.run((1, 0)), told(twin)), before)
        self.assertEqual(run, Run(machine))


class ArgumentsTest(unittest.TestCase):
    def test_tuples_instead_of_lists(self):
        self.assertEqual(DigitSet(2, [1, -1, 0]), DigitSet(2, (1, -1, 0)))
        self.assertEqual(combined([BINARY, BINARY], [1, 2]), combined((BINARY, BINARY), (1, 2)))
        self.assertEqual(combined([BINARY], (1,)), combined((BINARY,), [1]))
        self.assertEqual(LineFunction(ROWS), LineFunction(tuple(ROWS)))

    def test_lists_that_are_changed_afterwards(self):
        given = [1, -1, 0]
        digit_set = DigitSet(2, given)
        given[:] = [5]
        self.assertEqual((digit_set.digits, len(digit_set)), ((-1, 0, 1), 3))
        rows = list(ROWS)
        function = LineFunction(rows)
        rows.append(((3, 1), (9, 1)))
        rows[0] = ((0, 1), (7, 1))
        self.assertEqual((function.points(), len(function)), (ROWS, 2))
        sets, factors = [BINARY, BINARY], [1, 1]
        both = combined(sets, factors)
        sets.clear()
        factors.clear()
        self.assertEqual(both.digits, (-2, -1, 0, 1, 2))

    def test_arguments_are_not_modified(self):
        given, rows, sets, factors = [1, -1, 0], list(ROWS), [BINARY, DigitSet(2, [1, 0])], [3, -1]
        before = copy.deepcopy((given, rows, factors))
        DigitSet(2, given)
        LineFunction(rows)
        combined(sets, factors)
        self.assertEqual((given, rows, factors), before)
        self.assertEqual(sets, [BINARY, DigitSet(2, (0, 1))])

    def test_functions_do_not_change_their_arguments(self):
        one, other = LineFunction(ROWS), straight((-1, 1), (2, 1), (0, 1), (2, 1))
        before = (one.points(), other.points())
        for call in (add_lines, max_lines):
            call(one, other)
        compose_lines(one, other)
        scale_line(one, (0, 1))
        restrict_line(one, (1, 2), (3, 2))
        self.assertEqual((one.points(), other.points()), before)

    def test_returned_lists_are_new(self):
        function = LineFunction(ROWS)
        returned = function.points()
        returned.append(((3, 1), (9, 1)))
        returned[0] = None
        self.assertEqual(function.points(), ROWS)
        self.assertIsNot(function.points(), function.points())
        self.assertEqual((function.low(), function.value((0, 1)), len(function)), ((0, 1), (0, 1), 2))

    def test_a_changed_result_does_not_change_where_it_came_from(self):
        function = LineFunction(ROWS)
        restrict_line(function, (0, 1), (2, 1)).points().clear()
        max_lines(function, function).points().clear()
        self.assertEqual(function.points(), ROWS)

    def test_errors_change_nothing(self):
        function, digit_set = LineFunction(ROWS), DigitSet(2, [1, -1, 0])
        self.assertRaises(OutOfRange, function.value, (3, 1))
        self.assertRaises(OutOfRange, restrict_line, function, (0, 1), (3, 1))
        self.assertRaises(InvalidRow, digit_set.value, (1, 2))
        self.assertRaises(OutOfRange, digit_set.row_of, (2, 1), 3)
        rows = ROWS[::-1]
        self.assertRaises(InvalidPoints, LineFunction, rows)
        self.assertEqual((function.points(), digit_set, rows), (ROWS, BINARY, ROWS[::-1]))

    def test_the_same_call_returns_the_same_result(self):
        function = LineFunction(ROWS)
        for call in (lambda: BINARY.row_of((1, 3), 50), lambda: max_lines(function, function).points(),
                     lambda: combined([BINARY, BINARY], [1, 2]).digits):
            self.assertEqual(call(), call())


class WritersTest(unittest.TestCase):
    """The same rules for expressions, tables, refutations and machines."""

    def setUp(self):
        self.average = straight((1, 2), (0, 1), (-2, 1), (2, 1))
        self.task = (self.average, WIDE, BINARY)
        self.definitions = [("half", parse_expression("1/2*x")), ("clip", parse_expression("max(half(x), 0)"))]

    def test_tuples_instead_of_lists(self):
        expression = parse_expression("(clip(x) - half(1))")
        for call, *rest in ((evaluate, (1, 3)), (compile_expression, (-1, 1), (1, 1))):
            self.assertEqual(call(expression, *rest, definitions=tuple(self.definitions)),
                             call(expression, *rest, definitions=self.definitions))
        table, refutation = least_delay(*self.task)[1:]
        self.assertTrue(check_table(*self.task, 1, tuple([(row[0], tuple(row[1]), tuple(row[2])) for row in table])))
        self.assertTrue(check_refutation(*self.task, 0, tuple([(*row[:1], tuple(row[1]), row[2], tuple(row[3]))
                                                               for row in refutation])))
        states = machine_of(table, WIDE, BINARY, 1).states()
        given = tuple([(phase, tuple(moves)) for phase, moves in states])
        self.assertEqual(Machine(WIDE, BINARY, 1, given), Machine(WIDE, BINARY, 1, states))

    def test_arguments_are_not_modified(self):
        table, refutation = least_delay(*self.task)[1:]
        states = machine_of(table, WIDE, BINARY, 1).states()
        before = copy.deepcopy((self.definitions, table, refutation, states))
        expression = parse_expression("(clip(x) - half(1))")
        evaluate(expression, (1, 3), definitions=self.definitions)
        compile_expression(expression, (-1, 1), (1, 1), definitions=self.definitions)
        check_table(*self.task, 1, table)
        check_refutation(*self.task, 0, refutation)
        machine_of(table, WIDE, BINARY, 1)
        machine = Machine(WIDE, BINARY, 1, states)
        judge(machine, self.average)
        find_unlike(machine, trim(machine))
        self.assertEqual((self.definitions, table, refutation, states), before)
        self.assertEqual((machine.states(), self.average.points()), (states, points([(-2, -1), (2, 1)])))

    def test_lists_that_are_changed_afterwards(self):
        table = least_delay(*self.task)[1]
        machine = machine_of(table, WIDE, BINARY, 1)
        written = machine.run((1, 1, -2, 0))
        for row in table:
            row[1].clear()
            row[2].clear()
        table.clear()
        self.assertEqual(machine.run((1, 1, -2, 0)), written)
        self.assertIsNone(judge(machine, self.average))

    def test_returned_lists_are_new(self):
        expression = parse_expression("(clip(x) - half(1))")
        for call in (lambda: names_in(expression), lambda: decide(*self.task, 1)[1], lambda: decide(*self.task, 0)[1],
                     lambda: least_delay(*self.task)[1], lambda: least_delay(*self.task)[2],
                     lambda: compose(trim(machine_of(decide(*self.task, 1)[1], WIDE, BINARY, 1)),
                                     Machine(BINARY, BINARY, 0, [(0, [(0, 0)] * 3)])).states()):
            before = copy.deepcopy(call())
            returned = call()
            for row in returned:
                for part in row:
                    if isinstance(part, list):
                        part.clear()
            returned.clear()
            self.assertEqual(call(), before)

    def test_errors_change_nothing(self):
        machine = Machine(BINARY, BINARY, 0, [(0, [(-1, 0), (0, 0), (1, 0)])])
        before = copy.deepcopy(machine.states())
        for call, *rest in ((machine.run, (2,)), (judge, machine, self.average),
                            (find_unlike, machine, machine_of(decide(*self.task, 1)[1], WIDE, BINARY, 1)),
                            (after_read, self.average, WIDE, 3), (after_write, self.average, BINARY, 3),
                            (count_states, *self.task, 99), (decide, *self.task, 99),
                            (Machine, BINARY, BINARY, 0, [(0, [(7, 7)] * 3)])):
            caught(call, *rest)
        self.assertEqual((machine.states(), machine.run((1, 0))), (before, (1, 0)))
        self.assertEqual(self.average, line((-2, -1), (2, 1)))

    def test_the_same_call_returns_the_same_result(self):
        machine = machine_of(decide(*self.task, 2)[1], WIDE, BINARY, 2)
        for call in (lambda: decide(*self.task, 2), lambda: decide(*self.task, 0), lambda: least_delay(*self.task),
                     lambda: trim(machine).states(), lambda: judge(machine, line((-2, 0), (2, 1)))):
            self.assertEqual(call(), call())


class ExactTest(unittest.TestCase):
    def test_numbers_that_floats_cannot_tell_apart(self):
        low, high = (999999999998, 999999999999), (999999999999, 1000000000000)
        function = straight((1, 999999999999), (1, 3), low, high)
        self.assertNotEqual(function.value(low), function.value(high))
        self.assertEqual(function.value(low), pair(Fraction(1, 999999999999) * Fraction(*low) + Fraction(1, 3)))

    def test_long_rows_are_told_apart(self):
        one = BINARY.value((1,) * 199 + (0,))
        other = BINARY.value((1,) * 200)
        self.assertEqual((other[0] * one[1] - one[0] * other[1], one[1] * other[1]), (2 ** 199, 2 ** 399))


if __name__ == "__main__":
    unittest.main()

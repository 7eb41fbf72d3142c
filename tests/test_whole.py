"""Promises [1] to [23] together: texts, sets, machines, runs, workshops, documents and consoles in one piece."""

import random
import unittest
from fractions import Fraction

from earlywrite.console import Console
from earlywrite.delays import check_refutation, check_table, least_delay
from earlywrite.digits import DigitSet, combined
from earlywrite.documents import format_workshop, parse_workshop
from earlywrite.expressions import compile_expression, evaluate, parse_expression
from earlywrite.lines import compose_lines, straight
from earlywrite.machines import compose, find_unlike, judge, machine_of, trim
from earlywrite.runs import Run
from earlywrite.workshop import Workshop
from helpers import BINARY, WIDE, own_ends, own_value, pair, shop_with


def inside(run, number):
    low, high = run.bounds()
    return Fraction(*low) <= number <= Fraction(*high)


def written_number(machine, digits, number, count=80):
    """The run of a machine on the first digits of a number."""
    run = Run(machine)
    for digit in digits.row_of(pair(number), count):
        run.feed(digit)
    return run


class TextsTest(unittest.TestCase):
    def test_a_text_is_written_digit_by_digit(self):
        for text in ("1/2*x", "abs(x)", "(1 - 2*abs(x))", "max(-1/3, min(x, 1/4))", "(1/2*x - 1/4*abs((x + 1/3)))"):
            expression = parse_expression(text)
            function = compile_expression(expression, (-1, 1), (1, 1))
            delay, table, refutation = least_delay(function, BINARY, BINARY)
            self.assertTrue(check_table(function, BINARY, BINARY, delay, table))
            self.assertTrue(check_refutation(function, BINARY, BINARY, delay - 1, refutation))
            machine = trim(machine_of(table, BINARY, BINARY, delay))
            self.assertIsNone(judge(machine, function))
            for number in (Fraction(1, 3), Fraction(-1), Fraction(1), Fraction(-5, 11), Fraction(0)):
                value = Fraction(*evaluate(expression, pair(number)))
                run = Run(machine)
                for digit in BINARY.row_of(pair(number), 50):
                    run.feed(digit)
                    self.assertTrue(inside(run, value))
                self.assertLess(abs(own_value(run.written(), 2) - value), Fraction(1, 2 ** 40))

    def test_the_same_text_in_a_workshop_a_document_and_a_console(self):
        text = "(1/2*x - 1/4*abs((x + 1/3)))"
        shop = shop_with([("bin", ("set", 2, (-1, 0, 1))), ("mine", ("function", text)),
                          ("made", ("writer", "mine", "bin", "bin"))])
        function = compile_expression(parse_expression(text), (-1, 1), (1, 1))
        delay, table, refutation = least_delay(function, BINARY, BINARY)
        machine = trim(machine_of(table, BINARY, BINARY, delay))
        console = Console(parse_workshop(format_workshop(shop)))
        row = BINARY.row_of((1, 7), 30)
        self.assertEqual((shop.function_of("made"), shop.machine("made")), (function, machine))
        self.assertEqual(console.execute("delay made"), str(delay))
        self.assertEqual(console.execute("run made " + " ".join(map(str, row))), " ".join(map(str, machine.run(row))))
        run = console.workshop().start_run("made")
        for digit in row:
            run.feed(digit)
        self.assertEqual(run.written(), machine.run(row))
        self.assertTrue(inside(run, Fraction(*function.value((1, 7)))))


class PipesTest(unittest.TestCase):
    def test_a_pipe_is_run(self):
        shop = shop_with()
        for name in ("both", "trip", "long"):
            function = shop.function_of(name)
            for number in (Fraction(1, 3), Fraction(-1), Fraction(5, 7), Fraction(0)):
                run = shop.start_run(name)
                for digit in BINARY.row_of(pair(number), 60):
                    run.feed(digit)
                    self.assertTrue(inside(run, Fraction(*function.value(pair(number)))))
                    self.assertEqual(len(run.written()), max(0, len(run) - shop.delay(name)))
        self.assertEqual(shop.function_of("long").value((1, 1)), (1, 4))

    def test_runs_one_behind_the_other_write_what_the_pipe_writes(self):
        shop = shop_with()
        parts = [shop.start_run(name) for name in ("slow", "slow", "up", "back")]
        row = tuple(random.Random(5).choices((-1, 0, 1), k=60))
        passed = row
        for part in parts:
            before = part.written()
            for digit in passed:
                part.feed(digit)
            self.assertEqual(part.written()[:len(before)], before)
            passed = part.written()
        written = shop.machine("long").run(row)
        self.assertEqual(passed[:len(written)], written)

    def test_the_composition_is_right_for_the_composed_function(self):
        shop = shop_with()
        whole = compose(shop.machine("both"), shop.machine("trip"))
        function = compose_lines(shop.function_of("trip"), shop.function_of("both"))
        self.assertEqual((shop.machine("long"), shop.function_of("long")), (whole, function))
        self.assertIsNone(judge(whole, function))
        self.assertIsNone(find_unlike(whole, shop.machine("both")))


class SetsTest(unittest.TestCase):
    """A digit set is changed into another one and back, and the number stays the same."""

    def shop(self, one, other):
        shop = Workshop()
        shop.batch([("define", "one", ("set", one.base, one.digits)),
                    ("define", "other", ("set", other.base, other.digits)),
                    ("define", "same", ("function", "x")), ("define", "there", ("writer", "same", "one", "other")),
                    ("define", "again", ("writer", "same", "other", "one")),
                    ("define", "trip", ("pipe", ("there", "again")))])
        return shop

    def test_there_and_back(self):
        for one, other in ((DigitSet(3, range(-4, 5)), DigitSet(3, (-4, -2, 0, 1, 3, 4))),
                           (DigitSet(4, range(-6, 7)), DigitSet(4, (-6, -3, 0, 3, 6))),
                           (DigitSet(2, (-2, -1, 0, 1, 2)), DigitSet(2, (-2, -1, 1, 2))),
                           (DigitSet(10, range(-9, 10)), DigitSet(10, range(-9, 10)))):
            self.assertEqual(own_ends(one), own_ends(other))
            shop = self.shop(one, other)
            self.assertEqual(shop.function_of("trip"), straight((1, 1), (0, 1), one.low(), one.high()))
            there = shop.machine("there")
            self.assertIsNone(judge(there, shop.function_of("there")))
            self.assertIsNone(judge(shop.machine("trip"), shop.function_of("trip")))
            self.assertGreaterEqual(shop.slack("trip"), 0)
            for number in (Fraction(1, 3), Fraction(-2, 7), Fraction(0), own_ends(one)[0], own_ends(one)[1]):
                first = written_number(there, one, number)
                second = Run(shop.machine("again"))
                for digit in first.written():
                    second.feed(digit)
                self.assertTrue(inside(first, number))
                self.assertTrue(inside(second, number))
                self.assertTrue(inside(written_number(shop.machine("trip"), one, number), number))


class SumsTest(unittest.TestCase):
    """Rows are added digit by digit, and the sums are written again with the digits of one set."""

    def test_averages(self):
        both = combined([BINARY, BINARY], [1, 1])
        self.assertEqual(both, WIDE)
        shop = shop_with([("sums", ("set", 2, both.digits)), ("bin", ("set", 2, BINARY.digits)),
                          ("half", ("function", "1/2*x")), ("mean", ("writer", "half", "sums", "bin"))])
        self.assertEqual((shop.delay("mean"), shop.slack("mean")), (1, 0))
        chance = random.Random(8)
        for _ in range(20):
            one, other = [tuple(chance.choices((-1, 0, 1), k=60)) for _ in range(2)]
            run = shop.start_run("mean")
            for left, right in zip(one, other):
                self.assertIn(len(run.feed(left + right)), (0, 1))
            mean = (own_value(one, 2) + own_value(other, 2)) / 2
            self.assertEqual(own_value(run.read(), 2), 2 * mean)
            self.assertLessEqual(abs(own_value(run.written(), 2) - mean), Fraction(2, 2 ** 59))

    def test_combinations_with_factors(self):
        for sets, factors, text in (([BINARY, BINARY, BINARY], [1, 1, 1], "1/3*x"),
                                    ([BINARY, BINARY], [1, -1], "1/2*x"),
                                    ([BINARY, WIDE], [2, -1], "1/4*x")):
            total = combined(sets, factors)
            scale = Fraction(*evaluate(parse_expression(text), (1, 1)))
            shop = shop_with([("sums", ("set", 2, total.digits)), ("bin", ("set", 2, BINARY.digits)),
                              ("part", ("function", text)), ("made", ("writer", "part", "sums", "bin"))])
            rows = [tuple(random.Random(at).choices(part.digits, k=50)) for at, part in enumerate(sets)]
            added = [sum(factor * digit for factor, digit in zip(factors, column)) for column in zip(*rows)]
            value = scale * sum(factor * own_value(row, 2) for factor, row in zip(factors, rows))
            written = shop.machine("made").run(tuple(added))
            self.assertLess(abs(own_value(written, 2) - value), Fraction(1, 2 ** 40))

    def test_a_sum_of_four_streams_by_a_pipe(self):
        console = Console()
        for line in ("set bin 2 -1 0 1", "set sums 2 -4 -3 -2 -1 0 1 2 3 4", "set wide 2 -2 -1 0 1 2",
                     "function half 1/2*x",
                     "writer first half sums wide", "writer second half wide bin", "pipe mean first second"):
            self.assertEqual(console.execute(line), "ok")
        chance = random.Random(9)
        rows = [chance.choices((-1, 0, 1), k=60) for _ in range(4)]
        added = [sum(column) for column in zip(*rows)]
        answer = console.execute("run mean " + " ".join(map(str, added)))
        written = tuple([int(word) for word in answer.split(" ")])
        self.assertEqual(len(written), 60 - int(console.execute("delay mean")))
        mean = sum(own_value(row, 2) for row in rows) / 4
        self.assertLess(abs(own_value(written, 2) - mean), Fraction(1, 2 ** 50))
        self.assertEqual(console.execute("slack mean"),
                         str(console.workshop().delay("mean") - least_delay(
                             straight((1, 4), (0, 1), (-4, 1), (4, 1)), DigitSet(2, range(-4, 5)), BINARY)[0]))


class StoryTest(unittest.TestCase):
    def test_a_console_a_document_and_a_run(self):
        console = Console()
        lines = ["set bin 2 -1 0 1", "function half 1/2*x", "writer slow half bin bin", "pipe both slow slow"]
        self.assertEqual([console.execute(line) for line in lines], ["ok"] * 4)
        run = console.workshop().start_run("both")
        self.assertEqual([run.feed(digit) for digit in (1, 1)], [run.written()[2:3], run.written()[3:4]])
        self.assertEqual(format_workshop(console.workshop()), "".join([line + "\n" for line in lines]))
        again = Console(parse_workshop(format_workshop(console.workshop())))
        for line in ("names", "show both", "delay both", "slack both", "states both", "run both 1 1"):
            self.assertEqual(again.execute(line), console.execute(line))
        self.assertEqual((again.execute("undo"), console.execute("undo")), ("error EmptyHistory", "ok"))
        self.assertEqual(console.execute("delay both"), "error UndefinedName")
        self.assertEqual(run.read(), (1, 1))


if __name__ == "__main__":
    unittest.main()

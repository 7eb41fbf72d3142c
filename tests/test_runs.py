"""Promise [15] for runs: machines that read digit by digit, take digits back, and tell where their number lies."""

import random
import unittest
from fractions import Fraction

from earlywrite.delays import least_delay
from earlywrite.digits import DigitSet
from earlywrite.lines import straight
from earlywrite.machines import Machine, machine_of
from earlywrite.runs import Run
from helpers import BINARY, BITS, WIDE, caught, own_ends, own_value

COPY = Machine(BINARY, BINARY, 0, [(0, [(-1, 0), (0, 0), (1, 0)])])
MINUS = Machine(BINARY, BINARY, 0, [(0, [(1, 0), (0, 0), (-1, 0)])])
EARLY = Machine(BINARY, BINARY, -1, [(1, (1, 1)), (0, [(-1, 1), (0, 1), (1, 1)])])
THREE = DigitSet(3, (-2, -1, 0, 1, 2))
UNEVEN = DigitSet(3, (-1, 0, 1, 2))
TEN = DigitSet(10, range(-6, 7))
DELAYS = (-60, -7, -2, -1, 0, 1, 2, 7, 60)


def shifting(read, write, delay):
    """A machine with a delay that writes digits by turns, depending on what is read."""
    many = len(write.digits)
    before = abs(delay)
    if delay > 0:
        states = [(-delay + at, [at + 1] * len(read.digits)) for at in range(before)]
    else:
        states = [(-delay - at, (write.digits[at % many], at + 1)) for at in range(before)]
    for turn in range(many):
        moves = [(write.digits[(turn + at) % many], before + (turn + 1) % many) for at in range(len(read.digits))]
        states.append((0, moves))
    return Machine(read, write, delay, states)


def fed(machine, row):
    run = Run(machine)
    for digit in row:
        run.feed(digit)
    return run


def told(run):
    return (run.read(), run.written(), len(run), repr(run), run.bounds())


def random_row(seed, digits, many):
    return tuple(random.Random(seed).choices(digits, k=many))


class ExamplesTest(unittest.TestCase):
    def test_beginning(self):
        run = Run(EARLY)
        self.assertEqual([run.read(), run.written(), repr(run)], [(), (1,), "Run(0 read, 1 written)"])

    def test_undo(self):
        run = Run(MINUS)
        answers = [run.feed(1), run.feed(-1)]
        self.assertIsNone(run.undo())
        self.assertEqual([answers, run.read(), run.written()], [[(-1,), (1,)], (1,), (-1,)])

    def test_bounds(self):
        run = Run(MINUS)
        run.feed(1)
        self.assertEqual(run.bounds(), ((-1, 1), (0, 1)))

    def test_repr(self):
        late = Machine(BINARY, BINARY, 1, [(-1, [1, 1, 1]), (0, [(0, 1), (0, 1), (0, 1)])])
        self.assertEqual(repr(fed(late, (1, 0, 1))), "Run(3 read, 2 written)")


class FeedTest(unittest.TestCase):
    def test_each_digit_with_each_delay(self):
        for delay in DELAYS:
            with self.subTest(delay):
                machine = shifting(WIDE, BINARY, delay)
                run, row = Run(machine), random_row(delay, WIDE.digits, 70)
                self.assertEqual(told(run)[:4], ((), machine.run(()), 0, f"Run(0 read, {max(0, -delay)} written)"))
                for at, digit in enumerate(row):
                    before = run.written()
                    answer = run.feed(digit)
                    many = max(0, at + 1 - delay)
                    self.assertEqual(answer, machine.run(row[:at + 1])[len(before):])
                    self.assertIsInstance(answer, tuple)
                    self.assertEqual(len(answer), 1 if at + 1 > delay else 0)
                    self.assertEqual((run.read(), run.written()), (row[:at + 1], before + answer))
                    self.assertEqual((len(run), repr(run)), (at + 1, f"Run({at + 1} read, {many} written)"))
                self.assertEqual(run.written(), machine.run(row))

    def test_a_machine_that_writes_before_it_reads_sixty_digits(self):
        run = Run(shifting(BINARY, WIDE, -60))
        self.assertEqual(run.written(), (-2, -1, 0, 1, 2) * 12)
        self.assertEqual((run.feed(-1), len(run.written())), ((-2,), 61))

    def test_the_last_digit_that_writes_nothing_and_the_first_that_writes(self):
        run = Run(shifting(BINARY, BINARY, 60))
        self.assertEqual([run.feed(1) for _ in range(60)], [()] * 60)
        self.assertEqual(run.feed(1), (1,))

    def test_a_digit_that_is_not_in_the_reading_set(self):
        for machine, digits in ((COPY, (2, -2, 99)), (shifting(BITS, WIDE, 2), (-1, 2)), (EARLY, (5,))):
            run = fed(machine, (1, 0))
            before = told(run)
            for digit in digits:
                self.assertEqual(caught(run.feed, digit), ("InvalidRow",))
            self.assertEqual(told(run), before)

    def test_a_digit_of_the_writing_set_only(self):
        run = Run(shifting(BITS, WIDE, 0))
        self.assertEqual(caught(run.feed, -2), ("InvalidRow",))
        run = Run(shifting(WIDE, BITS, 0))
        self.assertEqual(len(run.feed(-2)), 1)

    def test_two_hundred_digits_and_one_more(self):
        for delay in (-60, -1, 0, 1, 60):
            with self.subTest(delay):
                machine, row = shifting(BINARY, BINARY, delay), random_row(delay, (-1, 0, 1), 200)
                run = fed(machine, row)
                before = told(run)
                self.assertEqual((len(run), len(run.written())), (200, 200 - delay))
                self.assertEqual(run.written(), machine.run(row))
                self.assertEqual(caught(run.feed, 0), ("LimitReached", 200))
                self.assertEqual(caught(run.feed, 2), ("InvalidRow",))
                self.assertEqual(told(run), before)
                run.undo()
                self.assertEqual(run.feed(row[-1]), machine.run(row)[len(machine.run(row[:-1])):])
                self.assertEqual(told(run), before)
                self.assertEqual(caught(run.feed, 1), ("LimitReached", 200))


class UndoTest(unittest.TestCase):
    def test_nothing_to_take_back(self):
        for machine in (COPY, EARLY, shifting(BINARY, BINARY, 2), shifting(BINARY, BINARY, -60)):
            run = Run(machine)
            before = told(run)
            self.assertEqual(caught(run.undo), ("EmptyHistory",))
            self.assertEqual(told(run), before)
            run.feed(1)
            self.assertIsNone(run.undo())
            self.assertEqual(caught(run.undo), ("EmptyHistory",))
            self.assertEqual(told(run), before)

    def test_all_the_way_back(self):
        for delay in DELAYS:
            with self.subTest(delay):
                machine, row = shifting(WIDE, BINARY, delay), random_row(delay, WIDE.digits, 65)
                run = fed(machine, row)
                for length in range(64, -1, -1):
                    self.assertIsNone(run.undo())
                    self.assertEqual((run.read(), run.written()), (row[:length], machine.run(row[:length])))
                self.assertEqual(run, Run(machine))

    def test_feeding_taking_back_and_feeding_again(self):
        chance = random.Random(3)
        for delay in (-60, -2, -1, 0, 1, 3):
            machine = shifting(UNEVEN, THREE, delay)
            run, row = Run(machine), []
            for _ in range(300):
                if row and chance.random() < 0.45:
                    run.undo()
                    row.pop()
                elif len(row) < 200:
                    row.append(chance.choice(UNEVEN.digits))
                    self.assertEqual(run.feed(row[-1]), machine.run(row)[len(machine.run(row[:-1])):])
                self.assertEqual((run.read(), run.written()), (tuple(row), machine.run(row)))


class CloneAndEqualityTest(unittest.TestCase):
    def test_clones_are_independent(self):
        for machine in (COPY, EARLY, shifting(BINARY, WIDE, 2)):
            run = fed(machine, (1, 0, -1))
            twin = run.clone()
            self.assertEqual((told(twin), twin), (told(run), run))
            before = told(run)
            twin.feed(1)
            self.assertEqual((told(run), run == twin), (before, False))
            run.undo()
            run.undo()
            run.feed(-1)
            self.assertEqual(twin.read(), (1, 0, -1, 1))
            self.assertEqual(twin.written(), machine.run((1, 0, -1, 1)))
            self.assertEqual((run.read(), run.written()), ((1, -1), machine.run((1, -1))))
            third = twin.clone()
            for _ in range(4):
                third.undo()
            self.assertEqual((third, len(twin)), (Run(machine), 4))

    def test_two_runs_of_one_machine(self):
        one, other = Run(EARLY), Run(EARLY)
        one.feed(1)
        self.assertEqual((one.read(), other.read(), other.written()), ((1,), (), (1,)))

    def test_equality(self):
        again = Machine(BINARY, BINARY, 0, [(0, [(1, 0), (0, 0), (-1, 0)])])
        self.assertEqual(fed(MINUS, (1, 0)), fed(again, (1, 0)))
        self.assertNotEqual(fed(MINUS, (1, 0)), fed(MINUS, (1, 1)))
        self.assertNotEqual(fed(MINUS, (1, 0)), fed(MINUS, (1,)))
        self.assertNotEqual(fed(MINUS, (1, 0)), fed(MINUS, (1, 0, 0)))
        # These two read and write the same here.
        self.assertEqual(fed(MINUS, (0,)).written(), fed(COPY, (0,)).written())
        self.assertNotEqual(fed(MINUS, (0,)), fed(COPY, (0,)))
        self.assertFalse(fed(MINUS, (0,)) != fed(again, (0,)))
        run = fed(MINUS, (1, 0))
        run.undo()
        self.assertEqual(run, fed(MINUS, (1,)))

    def test_runs_are_not_equal_to_other_values(self):
        run = fed(COPY, (1,))
        for other in (COPY, (1,), [1], 1, None, "Run(1 read, 1 written)", BINARY):
            self.assertFalse(run == other)
            self.assertTrue(run != other)


class BoundsTest(unittest.TestCase):
    def own_bounds(self, run, write):
        row = run.written()
        width = Fraction(1, write.base ** len(row))
        return tuple([own_value(row, write.base) + end * width for end in own_ends(write)])

    def check(self, run, write):
        low, high = run.bounds()
        for number in (low, high):
            self.assertEqual((Fraction(*number).numerator, Fraction(*number).denominator), number)
        self.assertIsInstance(run.bounds(), tuple)
        self.assertEqual((Fraction(*low), Fraction(*high)), self.own_bounds(run, write))
        return Fraction(*low), Fraction(*high)

    def test_against_own_arithmetic_and_always_closer(self):
        for read, write in ((BINARY, BINARY), (WIDE, BITS), (UNEVEN, THREE), (THREE, UNEVEN), (TEN, TEN)):
            for delay in (-60, -2, 0, 3):
                with self.subTest(f"{write} {delay}"):
                    run = Run(shifting(read, write, delay))
                    low, high = self.check(run, write)
                    for digit in random_row(delay, read.digits, 40):
                        written = run.feed(digit)
                        closer = self.check(run, write)
                        self.assertTrue(low <= closer[0] < closer[1] <= high)
                        self.assertEqual((closer[1] - closer[0]) * write.base ** len(written), high - low)
                        low, high = closer

    def test_before_anything_is_written(self):
        for write in (BINARY, BITS, THREE, UNEVEN, TEN):
            run = Run(shifting(write, write, 1))
            self.assertEqual(run.bounds(), (write.low(), write.high()))
            run.feed(write.digits[0])
            self.assertEqual(run.bounds(), (write.low(), write.high()))

    def test_more_than_two_hundred_written_digits(self):
        for write in (BINARY, UNEVEN, TEN):
            run = fed(shifting(BINARY if write.base == 2 else write, write, -60), (0,) * 200)
            self.assertEqual(len(run.written()), 260)
            low, high = self.check(run, write)
            span = Fraction(write.digits[-1] - write.digits[0], write.base - 1)
            self.assertEqual(high - low, span / write.base ** 260)

    def test_the_value_of_the_function_stays_inside(self):
        average = straight((1, 2), (0, 1), (-2, 1), (2, 1))
        delay, table, refutation = least_delay(average, WIDE, BINARY)
        run = Run(machine_of(table, WIDE, BINARY, delay))
        for number in (Fraction(4, 3), Fraction(-1, 7), Fraction(2), Fraction(-2)):
            twin = run.clone()
            for digit in WIDE.row_of((number.numerator, number.denominator), 60):
                twin.feed(digit)
                low, high = self.check(twin, BINARY)
                self.assertTrue(low <= number / 2 <= high)

    def test_taking_back_gives_the_earlier_bounds(self):
        run, seen = Run(EARLY), []
        for digit in (1, -1, 0, 0, 1):
            seen.append(run.bounds())
            run.feed(digit)
        while seen:
            run.undo()
            self.assertEqual(run.bounds(), seen.pop())


if __name__ == "__main__":
    unittest.main()

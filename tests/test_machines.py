"""Promises [15], [16] and [17]: machines, what they write, what is wrong with them, and what is made of them."""

import copy
import random
import unittest
from fractions import Fraction

from earlywrite.delays import decide, least_delay
from earlywrite.digits import DigitSet, combined
from earlywrite.lines import straight
from earlywrite.machines import (MAX_MACHINE_DELAY, MAX_PAIRS, Machine, compose, find_unlike, judge, machine_of, trim)
from helpers import (BINARY, BITS, WIDE, all_rows, caught, line, own_ends, own_value, plain, shaped, value_at)

THREE = DigitSet(3, (-2, -1, 0, 1, 2))
THREE_BITS = DigitSet(3, (0, 1, 2))
IDENTITY = straight((1, 1), (0, 1), (-1, 1), (1, 1))
AVERAGE = straight((1, 2), (0, 1), (-2, 1), (2, 1))
COPY = Machine(BINARY, BINARY, 0, [(0, [(-1, 0), (0, 0), (1, 0)])])
MINUS = Machine(BINARY, BINARY, 0, [(0, [(1, 0), (0, 0), (-1, 0)])])
LATE = Machine(BINARY, BINARY, 1, [(-1, [1, 1, 1]), (0, [(0, 1), (0, 1), (0, 1)])])
EARLY = Machine(BINARY, BINARY, -1, [(1, (1, 1)), (0, [(-1, 1), (0, 1), (1, 1)])])


def random_machine(chance, read, write, delay, many=3):
    """A machine with up to two states in each phase below 0, and so many states in the phase 0."""
    phases = [-delay] + [-k for k in range(delay - 1, 0, -1) for _ in range(2)] if delay > 0 else list(range(-delay, 0,
                                                                                                             -1))
    phases += [0] * many

    def following(phase):
        wanted = phase + 1 if phase < 0 else phase - 1 if phase > 0 else 0
        return chance.choice([at for at, other in enumerate(phases) if other == wanted])

    states = []
    for phase in phases:
        if phase < 0:
            states.append((phase, [following(phase) for _ in read.digits]))
        elif phase > 0:
            states.append((phase, (chance.choice(write.digits), following(phase))))
        else:
            states.append((phase, [(chance.choice(write.digits), following(phase)) for _ in read.digits]))
    return Machine(read, write, delay, states)


def counter(period, delay=0):
    """A machine that changes the sign of every digit whose number is a multiple of the period, behind its delay."""
    sign = [[(1, 0, -1), (-1, 0, 1)][at > 0] for at in range(period)]
    before = abs(delay)
    states = [(-delay + at if delay > 0 else -delay - at, [at + 1] * 3 if delay > 0 else (0, at + 1))
              for at in range(before)]
    states += [(0, [(digit, before + (at + 1) % period) for digit in sign[at]]) for at in range(period)]
    return Machine(BINARY, BINARY, delay, states)


def own_run(machine, row):
    """What a machine writes, found from its states alone."""
    states, written, at = machine.states(), [], 0
    while states[at][0] > 0:
        digit, at = states[at][1]
        written.append(digit)
    for digit in row:
        phase, moves = states[at]
        move = moves[machine.read_set().digits.index(digit)]
        if phase == 0:
            written.append(move[0])
            at = move[1]
        else:
            at = move
    return tuple(written)


def own_state(machine, row):
    """The state after a row was read and all writing that follows was done."""
    at = 0
    for digit in [None] * max(0, -machine.delay()) + list(row):
        phase, moves = machine.states()[at]
        at = moves[1] if digit is None else moves[machine.read_set().digits.index(digit)]
        at = at[1] if phase == 0 else at
    return at


def own_is_wrong(machine, function, row):
    """Whether a machine is wrong behind a row, by the formula of [10] at all places where the function has a corner."""
    out = own_run(machine, row)
    base, rows = machine.read_set().base, plain(function)
    low, high = own_ends(machine.read_set())
    bottom, top = own_ends(machine.write_set())
    begin, width = own_value(row, base), Fraction(1, base ** len(row))
    places = [begin + low * width, begin + high * width]
    places += [x for x, y in rows if places[0] < x < places[1]]
    values = [base ** len(out) * (value_at(rows, x) - own_value(out, base)) for x in places]
    return min(values) < bottom or max(values) > top


def own_are_unlike(one, other, row):
    outs = [own_run(one, row), own_run(other, row)]
    common = min(map(len, outs))
    base = one.read_set().base
    (a, b), (c, d) = [[own_value(out[:common], base) + end / base ** common for end in own_ends(machine.write_set())]
                      for out, machine in zip(outs, (one, other))]
    return b < c or d < a


def own_first(digits, longest, is_bad):
    """The first row that is bad, or None."""
    return next((row for row in all_rows(digits, longest) if is_bad(row)), None)


def with_changed_digit(machine, state, place, digit):
    states = machine.states()
    if states[state][0] > 0:
        states[state] = (states[state][0], (digit, states[state][1][1]))
    else:
        states[state][1][place] = (digit, states[state][1][place][1])
    return Machine(machine.read_set(), machine.write_set(), machine.delay(), states)


class MachineTest(unittest.TestCase):
    def test_constants(self):
        self.assertEqual((MAX_MACHINE_DELAY, MAX_PAIRS), (60, 3000))

    def test_examples(self):
        self.assertEqual([repr(LATE), LATE.states()[0]], ["Machine(delay 1, 2 states)", (-1, [1, 1, 1])])
        self.assertEqual([EARLY.run(()), EARLY.run((0, -1))], [(1,), (1, 0, -1)])

    def test_parts(self):
        machine = Machine(WIDE, BINARY, 0, [(0, [(1, 0)] * 5)])
        self.assertEqual((machine.read_set(), machine.write_set(), machine.delay()), (WIDE, BINARY, 0))
        self.assertEqual((machine.states(), len(machine)), ([(0, [(1, 0)] * 5)], 1))
        self.assertEqual((EARLY.states(), len(EARLY), EARLY.delay()),
                         ([(1, (1, 1)), (0, [(-1, 1), (0, 1), (1, 1)])], 2, -1))
        self.assertEqual(repr(EARLY), "Machine(delay -1, 2 states)")

    def test_kinds_of_the_states(self):
        for state in LATE.states() + EARLY.states():
            self.assertEqual([type(part) for part in state], [int, tuple if state[0] > 0 else list])
        given = Machine(BINARY, BINARY, 1, ((-1, (1, 1, 1)), (0, ((0, 1), (0, 1), (0, 1)))))
        self.assertEqual(given, LATE)
        self.assertEqual(given.states(), LATE.states())

    def test_writing_sets_need_not_be_redundant(self):
        machine = Machine(BINARY, BITS, 0, [(0, [(0, 0), (1, 0), (1, 0)])])
        self.assertEqual(machine.run((-1, 0, 1)), (0, 1, 1))

    def test_equality(self):
        self.assertEqual(COPY, Machine(DigitSet(2, [1, 0, -1]), BINARY, 0, [(0, ((-1, 0), (0, 0), (1, 0)))]))
        two = [(0, [(-1, 1), (0, 0), (1, 0)]), (0, [(-1, 0), (0, 0), (1, 0)])]
        for other in (MINUS, LATE, EARLY, Machine(BINARY, WIDE, 0, COPY.states()), Machine(BINARY, BINARY, 0, two),
                      Machine(DigitSet(2, (-2, 0, 2)), BINARY, 0, COPY.states())):
            self.assertNotEqual(COPY, other)
            self.assertFalse(COPY == other)
        for other in (COPY.states(), None, 0, "Machine(delay 0, 1 states)", BINARY, (BINARY, BINARY, 0, COPY.states())):
            self.assertFalse(COPY == other)
            self.assertTrue(COPY != other)
        # The same states with another delay cannot be: the first phase tells the delay.
        self.assertEqual(caught(Machine, BINARY, BINARY, 1, COPY.states()), ("InvalidMachine", -1))

    def test_given_lists_that_are_changed_afterwards(self):
        moves, states = [(-1, 0), (0, 0), (1, 0)], []
        states.append((0, moves))
        machine = Machine(BINARY, BINARY, 0, states)
        moves[0] = (1, 0)
        states.append((0, moves))
        self.assertEqual((machine, machine.run((-1,)), len(machine)), (COPY, (-1,), 1))

    def test_returned_lists_that_are_changed(self):
        for machine in (LATE, EARLY, COPY):
            before = copy.deepcopy(machine.states())
            returned = machine.states()
            for phase, moves in returned:
                if phase <= 0:
                    moves[0] = None
                    moves.append(7)
            returned.clear()
            self.assertEqual(machine.states(), before)
            self.assertIsNot(machine.states()[-1][1], machine.states()[-1][1])

    def test_arguments_are_not_modified(self):
        states = [(-1, [1, 1, 1]), (0, [(0, 1), (0, 1), (0, 1)])]
        before = copy.deepcopy(states)
        Machine(BINARY, BINARY, 1, states).run((0, 1))
        self.assertEqual(states, before)

    def test_keywords(self):
        self.assertEqual(Machine(states=COPY.states(), delay=0, write=BINARY, read=BINARY), COPY)
        self.assertEqual(COPY.run(row=(1, 0)), (1, 0))


class InvalidMachineTest(unittest.TestCase):
    GOOD = [(0, [(-1, 1), (0, 0), (1, 2)]), (0, [(0, 0), (0, 1), (0, 2)]), (0, [(1, 2), (1, 2), (1, 2)])]
    CHAIN = [(-2, [1, 2, 1]), (-1, [3, 3, 3]), (-1, [3, 3, 4]), (0, [(0, 3), (0, 4), (0, 3)]), (0, [(1, 4)] * 3)]
    WRITES = [(2, (1, 1)), (1, (0, 2)), (0, [(0, 2), (1, 2), (-1, 2)])]

    def assert_wrong(self, state, states, delay=0):
        self.assertEqual(caught(Machine, BINARY, BINARY, delay, states), ("InvalidMachine", state), states)

    def with_state(self, states, at, state):
        return states[:at] + [state] + states[at + 1:]

    def test_the_good_ones(self):
        for states in (self.GOOD, self.CHAIN, self.WRITES):
            self.assertEqual(Machine(BINARY, BINARY, -states[0][0], states).states(), states)

    def test_different_bases(self):
        self.assertEqual(caught(Machine, BINARY, THREE, 0, [(0, [(0, 0)] * 3)]), ("Incompatible",))
        self.assertEqual(caught(Machine, BINARY, THREE, 99, []), ("Incompatible",))
        self.assertEqual(caught(Machine, BINARY, THREE, 0, []), ("Incompatible",))

    def test_delays(self):
        zeros = (0, [(0, 60)] * 3)
        late = [(-60 + at, [at + 1] * 3) for at in range(60)] + [zeros]
        early = [(60 - at, (1, at + 1)) for at in range(60)] + [zeros]
        self.assertEqual(Machine(BINARY, BINARY, 60, late).run((1,) * 62), (0, 0))
        self.assertEqual(Machine(BINARY, BINARY, -60, early).run((0,)), (1,) * 60 + (0,))
        for delay in (61, -61, 10 ** 29, -10 ** 29):
            for states in ([], [(-delay, [0] * 3)], late, early, [(0, [])]):
                self.assertEqual(caught(Machine, BINARY, BINARY, delay, states), ("InvalidDelay",))

    def test_numbers_of_states(self):
        zeros = [(0, [(0, 0)] * 3)]
        for many in (1, 2, 399, 400):
            self.assertEqual(len(Machine(BINARY, BINARY, 0, zeros * many)), many)
        for many in (0, 401, 402):
            self.assert_wrong(-1, zeros * many)
            self.assert_wrong(-1, [(0, [])] * many)

    def test_the_phase_of_state_0(self):
        self.assert_wrong(-1, self.GOOD, delay=1)
        self.assert_wrong(-1, self.CHAIN, delay=0)
        self.assert_wrong(-1, self.CHAIN, delay=-2)
        self.assert_wrong(-1, self.WRITES, delay=2)
        self.assert_wrong(-1, self.with_state(self.GOOD, 0, (-1, [1, 1, 1])))
        # This comes before the faults of the states.
        self.assert_wrong(-1, [(1, (7, 7)), (0, [])])

    def test_wrong_numbers_of_moves(self):
        for at in range(3):
            phase, moves = self.GOOD[at]
            for other in (moves[:2], moves + moves[:1], [], moves[:1]):
                self.assert_wrong(at, self.with_state(self.GOOD, at, (phase, other)))
        for at in range(3):
            phase, moves = self.CHAIN[at]
            for other in (moves[:2], moves + moves[:1], []):
                self.assert_wrong(at, self.with_state(self.CHAIN, at, (phase, other)), delay=2)
        for at in range(2):
            phase, moves = self.WRITES[at]
            for other in ((), moves[:1], moves + (2,), moves * 2):
                self.assert_wrong(at, self.with_state(self.WRITES, at, (phase, other)), delay=-2)

    def test_written_digits(self):
        for digit in (2, -2, 99):
            for at in range(3):
                for place in range(3):
                    moves = list(self.GOOD[at][1])
                    moves[place] = (digit, moves[place][1])
                    self.assert_wrong(at, self.with_state(self.GOOD, at, (0, moves)))
            for at in range(2):
                phase, moves = self.WRITES[at]
                self.assert_wrong(at, self.with_state(self.WRITES, at, (phase, (digit, moves[1]))), delay=-2)

    def test_next_states_that_do_not_exist(self):
        for following in (-1, -3, 3, 4, 5, 10 ** 29):
            for at in range(3):
                for place in range(3):
                    moves = list(self.GOOD[at][1])
                    moves[place] = (moves[place][0], following)
                    self.assert_wrong(at, self.with_state(self.GOOD, at, (0, moves)))
            for at in range(2):
                phase, moves = self.WRITES[at]
                self.assert_wrong(at, self.with_state(self.WRITES, at, (phase, (moves[0], following))), delay=-2)
        for following in (-1, 5, 10 ** 29):
            for at in range(3):
                for place in range(3):
                    phase, moves = self.CHAIN[at]
                    moves = moves[:place] + [following] + moves[place + 1:]
                    self.assert_wrong(at, self.with_state(self.CHAIN, at, (phase, moves)), delay=2)

    def test_next_states_with_a_wrong_phase(self):
        for at in range(5):
            phase, moves = self.CHAIN[at]
            for following in range(5):
                if self.CHAIN[following][0] != min(0, phase + 1):
                    for place in range(3):
                        new = following if phase < 0 else (moves[place][0], following)
                        other = moves[:place] + [new] + moves[place + 1:]
                        self.assert_wrong(at, self.with_state(self.CHAIN, at, (phase, other)), delay=2)
        for at, following in ((0, 0), (0, 2), (1, 1), (1, 0)):
            phase, moves = self.WRITES[at]
            self.assert_wrong(at, self.with_state(self.WRITES, at, (phase, (moves[0], following))), delay=-2)
        for following in (0, 1):
            self.assert_wrong(2, self.with_state(self.WRITES, 2, (0, [(0, 2), (0, following), (0, 2)])), delay=-2)

    def test_states_whose_phase_is_changed(self):
        for states in (self.GOOD, self.CHAIN, self.WRITES):
            delay = -states[0][0]
            for at in range(1, len(states)):
                for phase in (-3, -2, -1, 0, 1, 2, 3):
                    if phase != states[at][0]:
                        made = self.with_state(states, at, (phase, states[at][1]))
                        tag, state = caught(Machine, BINARY, BINARY, delay, made)
                        self.assertEqual(tag, "InvalidMachine")
                        self.assertLessEqual(state, at)

    def test_pairs_where_numbers_are_expected(self):
        # Two digits make a pair and a list of two moves look alike.
        for phase, moves in ((-1, [(0, 0), (1, 0)]), (1, [(0, 0), (1, 0)]), (0, (0, 0)), (0, [0, 0])):
            self.assertEqual(caught(Machine, BITS, BITS, 0, [(0, [(0, 0), (1, 0)]), (phase, moves)]),
                             ("InvalidMachine", 1))

    def test_states_that_are_never_reached(self):
        unreached = (0, [(0, 0), (0, 0), (0, 9)])
        self.assert_wrong(3, self.GOOD + [unreached])
        self.assertEqual(len(Machine(BINARY, BINARY, 0, self.GOOD + [(1, (0, 0)), (2, (1, 3)), (-1, [0, 1, 2])])), 6)
        self.assert_wrong(4, self.GOOD + [(1, (0, 0)), (3, (1, 3))])

    def test_the_first_of_several_wrong_states(self):
        wrong = (0, [])
        for first in range(3):
            for second in range(first + 1, 3):
                states = self.with_state(self.with_state(self.GOOD, first, wrong), second, wrong)
                self.assert_wrong(first, states)
        # A state that leads to one with a wrong phase is wrong itself, and stands before it.
        self.assert_wrong(0, self.with_state(self.GOOD, 2, (5, (7, 7))))


class RunTest(unittest.TestCase):
    def test_many_machines(self):
        chance = random.Random(1)
        for read, write in ((BINARY, BINARY), (BITS, WIDE), (THREE_BITS, THREE)):
            for delay in range(-3, 4):
                machine = random_machine(chance, read, write, delay)
                for row in all_rows(read.digits, 4):
                    written = machine.run(row)
                    self.assertEqual(written, own_run(machine, row))
                    self.assertEqual(len(written), max(0, len(row) - delay))
                    self.assertIs(type(written), tuple)
                    if row:
                        self.assertEqual(machine.run(row[:-1]), written[:max(0, len(row) - 1 - delay)])

    def test_long_rows(self):
        for many in (0, 1, 199, 200):
            self.assertEqual(COPY.run((1,) * many), (1,) * many)
            self.assertEqual(EARLY.run((-1,) * many), (1,) + (-1,) * many)
            self.assertEqual(LATE.run((-1,) * many), (0,) * max(0, many - 1))

    def test_invalid_rows(self):
        for row in ((1,) * 201, (0,) * 300, (2,), (1, 0, -2), (0,) * 199 + (5,), (3,) * 201):
            for machine in (COPY, EARLY, LATE):
                self.assertEqual(caught(machine.run, row), ("InvalidRow",))
        self.assertEqual(caught(Machine(BITS, BINARY, 0, [(0, [(0, 0), (1, 0)])]).run, (0, -1)), ("InvalidRow",))
        self.assertEqual(COPY.run((1, 0)), (1, 0))


class MachineOfTest(unittest.TestCase):
    def test_example(self):
        sums = combined([BINARY, BINARY], [1, 1])
        function = straight((1, 2), (0, 1), sums.low(), sums.high())
        machine = machine_of(least_delay(function, sums, BINARY)[1], sums, BINARY, 1)
        self.assertEqual(machine.run((1, 1)), (1,))

    def test_states_do_what_the_rows_say(self):
        for function, read, write in ((AVERAGE, WIDE, BINARY), (IDENTITY, BINARY, BINARY),
                                      (line((-1, Fraction(-1, 4)), (1, Fraction(1, 4))), BINARY, BINARY),
                                      (shaped(THREE, THREE, (0, 1), (Fraction(1, 2), 0), (1, 1)), THREE, THREE)):
            least = least_delay(function, read, write)[0]
            for delay in (least, least + 1):
                _, table = decide(function, read, write, delay)
                before = copy.deepcopy(table)
                machine = machine_of(table, read, write, delay)
                self.assertEqual((machine.read_set(), machine.write_set(), machine.delay(), len(machine)),
                                 (read, write, delay, len(table)))
                for (phase, moves), (expected, _, told) in zip(machine.states(), table):
                    self.assertEqual(phase, expected)
                    pairs = [moves] if phase > 0 else moves if phase == 0 else [(None, number) for number in moves]
                    self.assertEqual(pairs, [(written, number) for _, written, number in told])
                self.assertEqual(table, before)
                table.clear()
                self.assertIsNone(judge(machine, function))
                self.assertIsNone(own_first(read.digits, 4, lambda row: own_is_wrong(machine, function, row)))

    def test_tuples_and_keywords(self):
        _, table = decide(AVERAGE, WIDE, BINARY, 1)
        given = tuple([(phase, tuple(rows), tuple(moves)) for phase, rows, moves in table])
        self.assertEqual(machine_of(delay=1, write=BINARY, read=WIDE, table=given), machine_of(table, WIDE, BINARY, 1))


class JudgeTest(unittest.TestCase):
    LONGEST = 5

    def assert_judged(self, machine, function, limit=MAX_PAIRS):
        found = judge(machine, function, limit=limit)
        digits = machine.read_set().digits
        longest = self.LONGEST if len(digits) < 5 else 3
        expected = own_first(digits, longest, lambda row: own_is_wrong(machine, function, row))
        if expected is not None or found is None or len(found) <= longest:
            self.assertEqual(found, expected)
        else:
            self.assertTrue(own_is_wrong(machine, function, found))
            self.assertFalse(any(own_is_wrong(machine, function, found[:end]) for end in range(len(found))))
        return found

    def test_example(self):
        self.assertEqual([judge(COPY, straight((k, 1), (0, 1), (-1, 1), (1, 1))) for k in (0, 1)], [(-1, -1), None])

    def test_random_machines(self):
        chance = random.Random(2)
        lengths = set()
        for read, write in ((BINARY, BINARY), (BITS, BINARY), (BINARY, WIDE), (THREE_BITS, THREE), (BITS, BITS)):
            for delay in range(-3, 4):
                for shape in (((0, 0), (1, 1)), ((0, Fraction(1, 2)), (1, Fraction(1, 2))),
                              ((0, 1), (Fraction(1, 3), 0), (1, 1))):
                    machine = random_machine(chance, read, write, delay)
                    found = self.assert_judged(machine, shaped(read, write, *shape))
                    lengths.add(None if found is None else len(found))
        self.assertTrue({0, 1, 2, 3} <= lengths, lengths)

    def test_right_machines_and_one_digit_changed(self):
        wrong = 0
        for function, read, write in ((AVERAGE, WIDE, BINARY), (IDENTITY, BINARY, BINARY),
                                      (line((-1, 1), (0, 0), (1, 1)), BINARY, BINARY),
                                      (line((-1, Fraction(-1, 4)), (1, Fraction(1, 4))), BINARY, BINARY)):
            delay, table, _ = least_delay(function, read, write)
            for late in (delay, delay + 1):
                machine = machine_of(decide(function, read, write, late)[1], read, write, late)
                self.assertIsNone(self.assert_judged(machine, function))
                for state, (phase, moves) in enumerate(machine.states()):
                    for place in range(len(moves) if phase == 0 else phase > 0):
                        for digit in write.digits:
                            changed = with_changed_digit(machine, state, place, digit)
                            wrong += self.assert_judged(changed, function) is not None
        self.assertGreater(wrong, 50)

    def test_functions_that_are_not_safe_themselves(self):
        for machine in (COPY, LATE, EARLY):
            self.assertEqual(judge(machine, line((-1, 0), (1, 2))), ())
            self.assertEqual(judge(machine, line((-1, 5), (1, 5)), limit=1), ())
        self.assertEqual(judge(EARLY, line((-1, 0), (1, 1))), None)
        self.assertEqual(judge(EARLY, line((-1, Fraction(-1, 10 ** 9)), (1, 1))), ())

    def test_other_intervals(self):
        for rows in ([(-1, 0), (2, 0)], [(0, 0), (1, 0)], [(-2, 0), (2, 0)], [(-1, 9), (Fraction(1, 2), 9)]):
            self.assertEqual(caught(judge, COPY, line(*rows)), ("Incompatible",))
            self.assertEqual(caught(judge, COPY, line(*rows), limit=1), ("Incompatible",))

    def pairs(self, machine, function):
        """How many different pairs come before a wrong row is found, by a search of the test's own."""
        seen, waiting = {}, [()]
        digits = machine.read_set().digits
        while waiting:
            row = waiting.pop(0)
            key = self.pair_behind(machine, function, row)
            if key not in seen:
                if own_is_wrong(machine, function, row):
                    return len(seen)
                seen[key] = row
                waiting.extend([(*row, digit) for digit in digits])
        return len(seen)

    def pair_behind(self, machine, function, row):
        base, out, rows = machine.read_set().base, own_run(machine, row), plain(function)
        low, high = own_ends(machine.read_set())
        at = own_state(machine, row)
        places = [base ** len(row) * (x - own_value(row, base)) for x, y in rows]
        places = [low] + [z for z in places if low < z < high] + [high]
        return at, tuple([(z, base ** len(out) * (value_at(rows, own_value(row, base) + z / base ** len(row))
                                                  - own_value(out, base))) for z in places])

    def test_limits_that_are_just_enough(self):
        chance = random.Random(3)
        counts = set()
        machines = [(random_machine(chance, read, BINARY, delay), shaped(read, BINARY, (0, 0), (1, 1)))
                    for read in (BINARY, BITS) for delay in (-1, 0, 1, 2) for _ in range(3)]
        for delay in (0, 1, 2):
            machines.append((machine_of(decide(IDENTITY, BINARY, BINARY, delay)[1], BINARY, BINARY, delay), IDENTITY))
        for machine, function in machines:
            many = self.pairs(machine, function)
            counts.add(many)
            expected = judge(machine, function)
            self.assertEqual(judge(machine, function, limit=max(1, many)), expected)
            if many > 1:
                self.assertEqual(caught(judge, machine, function, limit=many - 1), ("LimitReached", many - 1))
                self.assertEqual(caught(judge, machine, function, limit=1), ("LimitReached", 1))
        self.assertGreater(len(counts), 5)

    def test_pairs_of_states_that_only_write_are_not_counted(self):
        # Before the first digit there is one pair, that behind the empty row.
        zeros = Machine(BINARY, BINARY, -3, [(3, (0, 1)), (2, (0, 2)), (1, (0, 3)), (0, [(0, 3)] * 3)])
        self.assertIsNone(judge(zeros, line((-1, 0), (1, 0)), limit=1))

    def test_a_pair_beyond_the_limit_before_a_wrong_row(self):
        # Behind -1 comes a new pair, behind 1 the machine is wrong.
        machine = Machine(BINARY, BINARY, 0, [(0, [(-1, 1), (0, 0), (-1, 0)]), (0, [(-1, 1), (0, 1), (1, 1)])])
        self.assertEqual(judge(machine, IDENTITY), (1,))
        self.assertEqual(judge(machine, IDENTITY, limit=2), (1,))
        self.assertEqual(caught(judge, machine, IDENTITY, limit=1), ("LimitReached", 1))
        # Here the wrong row comes first.
        machine = Machine(BINARY, BINARY, 0, [(0, [(1, 0), (0, 0), (1, 1)]), (0, [(-1, 1), (0, 1), (1, 1)])])
        self.assertEqual(judge(machine, IDENTITY, limit=1), (-1,))

    def test_the_default_limit(self):
        # One pair for each of the states, so many functions and many phases as there are.
        cycle = Machine(BINARY, BINARY, 0, [(0, [(-1, (k + 1) % 400), (0, (k + 1) % 400), (1, (k + 1) % 400)])
                                            for k in range(400)])
        self.assertIsNone(judge(cycle, IDENTITY, limit=400))
        self.assertEqual(caught(judge, cycle, IDENTITY, limit=399), ("LimitReached", 399))
        late = machine_of(decide(IDENTITY, BINARY, BINARY, 3)[1], BINARY, BINARY, 3)
        many = self.pairs(late, IDENTITY)
        self.assertIsNone(judge(late, IDENTITY, limit=many))

    def test_keywords(self):
        self.assertEqual(judge(limit=9, function=line((-1, 0), (1, 0)), machine=COPY), (-1, -1))
        self.assertRaises(TypeError, judge, COPY, IDENTITY, 9)


class FindUnlikeTest(unittest.TestCase):
    LONGEST = 5

    def assert_found(self, one, other):
        found = find_unlike(one, other)
        digits = one.read_set().digits
        expected = own_first(digits, self.LONGEST, lambda row: own_are_unlike(one, other, row))
        if expected is not None or found is None or len(found) <= self.LONGEST:
            self.assertEqual(found, expected)
        else:
            self.assertTrue(own_are_unlike(one, other, found))
        self.assertEqual(find_unlike(other, one), found)
        return found

    def test_example(self):
        zeros = Machine(BINARY, BINARY, 0, [(0, [(0, 0), (0, 0), (0, 0)])])
        late = Machine(BINARY, BINARY, 0, [(0, [(0, 1), (0, 1), (0, 1)]), (0, [(1, 1), (1, 1), (1, 1)])])
        self.assertEqual([find_unlike(zeros, zeros), find_unlike(zeros, late)], [None, (-1, -1, -1)])

    def test_random_machines(self):
        chance = random.Random(4)
        lengths = set()
        for read in (BINARY, BITS):
            for delay in range(-3, 4):
                for another in range(-3, 4):
                    one = random_machine(chance, read, chance.choice((BINARY, WIDE, BITS)), delay)
                    other = random_machine(chance, read, chance.choice((BINARY, WIDE, BITS)), another)
                    found = self.assert_found(one, other)
                    lengths.add(None if found is None else len(found))
        self.assertTrue({1, 2, 3, 4} <= lengths, lengths)

    def test_equal_machines(self):
        chance = random.Random(5)
        for delay in range(-3, 4):
            machine = random_machine(chance, BINARY, BINARY, delay)
            for other in (machine, trim(machine)):
                self.assertIsNone(self.assert_found(machine, other))
        self.assertIsNone(find_unlike(COPY, Machine(BINARY, BINARY, 0, COPY.states())))

    def test_equal_numbers_with_other_digits(self):
        # 1 -1 -1 -1 .. and 0 0 0 0 .. have the same value.
        zeros = Machine(BINARY, BINARY, 0, [(0, [(0, 0)] * 3)])
        other = Machine(BINARY, BINARY, 0, [(0, [(1, 1)] * 3), (0, [(-1, 1)] * 3)])
        self.assertIsNone(self.assert_found(zeros, other))
        self.assertEqual(self.assert_found(zeros, with_changed_digit(other, 1, 0, 0)), (-1, -1, -1))

    def test_one_digit_changed(self):
        delay, table, _ = least_delay(AVERAGE, WIDE, BINARY)
        machine = machine_of(table, WIDE, BINARY, delay)
        unlike = 0
        for state, (phase, moves) in enumerate(machine.states()):
            for place in range(len(moves) if phase == 0 else 0):
                for digit in BINARY.digits:
                    changed = with_changed_digit(machine, state, place, digit)
                    found = find_unlike(machine, changed)
                    if changed == machine:
                        self.assertIsNone(found)
                    elif found is not None:
                        unlike += 1
                        self.assertTrue(own_are_unlike(machine, changed, found))
                        self.assertFalse(any(own_are_unlike(machine, changed, found[:k]) for k in range(len(found))))
        self.assertGreater(unlike, 20)

    def test_machines_of_one_task_with_two_delays(self):
        for function in (IDENTITY, line((-1, 1), (0, 0), (1, 1)), line((-1, Fraction(-1, 4)), (1, Fraction(1, 4)))):
            least = least_delay(function, BINARY, BINARY)[0]
            made = [machine_of(decide(function, BINARY, BINARY, delay)[1], BINARY, BINARY, delay)
                    for delay in (least, least + 1, least + 2)]
            for one in made:
                for other in made:
                    self.assertIsNone(self.assert_found(one, other))

    def test_other_writing_sets(self):
        wide = Machine(BINARY, WIDE, 0, COPY.states())
        self.assertIsNone(self.assert_found(COPY, wide))
        far = DigitSet(2, (5, 6))
        high = Machine(BINARY, far, 0, [(0, [(5, 0)] * 3)])
        self.assertEqual(self.assert_found(COPY, high), ())
        # The intervals from 0 to 1 and from 1 to 2 have one number in common.
        low = Machine(BITS, BITS, 0, [(0, [(1, 0), (1, 0)])])
        touching = Machine(BITS, DigitSet(2, (1, 2)), 0, [(0, [(1, 0), (1, 0)])])
        self.assertIsNone(self.assert_found(low, touching))
        self.assertEqual(self.assert_found(with_changed_digit(low, 0, 1, 0), touching), (1,))

    def test_incompatible_machines(self):
        wide = Machine(WIDE, BINARY, 0, [(0, [(0, 0)] * 5)])
        three = Machine(THREE, THREE, 0, [(0, [(0, 0)] * 5)])
        same_digits = Machine(DigitSet(3, (-1, 0, 1)), THREE, 0, [(0, [(0, 0)] * 3)])
        for other in (wide, three, same_digits):
            self.assertEqual(caught(find_unlike, COPY, other), ("Incompatible",))
            self.assertEqual(caught(find_unlike, other, COPY, limit=1), ("Incompatible",))

    def tuples(self, one, other):
        """How many different tuples come before an unlike row is found, by a search of the test's own."""
        seen, waiting = set(), [()]
        while waiting:
            row = waiting.pop(0)
            if own_are_unlike(one, other, row):
                return len(seen)
            key = self.tuple_behind(one, other, row)
            if key not in seen:
                seen.add(key)
                waiting.extend([(*row, digit) for digit in one.read_set().digits])
        return len(seen)

    def tuple_behind(self, one, other, row):
        outs = [own_run(machine, row) for machine in (one, other)]
        common = min(map(len, outs))
        base = one.read_set().base
        gap = (own_value(outs[0][:common], base) - own_value(outs[1][:common], base)) * base ** common
        return (own_state(one, row), own_state(other, row), outs[0][common:], outs[1][common:], gap)

    def test_limits_that_are_just_enough(self):
        chance = random.Random(6)
        counts = set()
        pairs = [(COPY, COPY), (LATE, Machine(BINARY, BINARY, 0, [(0, [(0, 0)] * 3)]))]
        made = [machine_of(decide(IDENTITY, BINARY, BINARY, delay)[1], BINARY, BINARY, delay) for delay in (0, 1, 2)]
        pairs += [(one, other) for one in made for other in made]
        pairs += [(random_machine(chance, BITS, BINARY, chance.randint(-2, 2)),
                   random_machine(chance, BITS, BINARY, chance.randint(-2, 2))) for _ in range(12)]
        for one, other in pairs:
            many = self.tuples(one, other)
            counts.add(many)
            expected = find_unlike(one, other)
            self.assertEqual(find_unlike(one, other, limit=max(1, many)), expected)
            if many > 1:
                self.assertEqual(caught(find_unlike, one, other, limit=many - 1), ("LimitReached", many - 1))
        self.assertGreater(len(counts), 5)

    def test_the_default_limit(self):
        # Two cycles of coprime lengths have all pairs of states.
        def cycle(length):
            return Machine(BITS, BITS, 0, [(0, [(0, (k + 1) % length), (1, (k + 1) % length)]) for k in range(length)])
        self.assertIsNone(find_unlike(cycle(60), cycle(49)))
        self.assertIsNone(find_unlike(cycle(50), cycle(120), limit=600))
        self.assertEqual(caught(find_unlike, cycle(50), cycle(120), limit=599), ("LimitReached", 599))
        self.assertIsNone(find_unlike(cycle(375), cycle(8)))
        self.assertEqual(caught(find_unlike, cycle(79), cycle(38)), ("LimitReached", 3000))

    def test_keywords(self):
        self.assertIsNone(find_unlike(limit=9, other=COPY, one=COPY))
        self.assertRaises(TypeError, find_unlike, COPY, COPY, 9)


class TrimTest(unittest.TestCase):
    def assert_trimmed(self, machine, trimmed, longest=5):
        self.assertEqual((trimmed.read_set(), trimmed.write_set(), trimmed.delay()),
                         (machine.read_set(), machine.write_set(), machine.delay()))
        for row in all_rows(machine.read_set().digits, longest):
            self.assertEqual(trimmed.run(row), machine.run(row))
        self.assertEqual(len(trimmed), self.fewest(machine))
        self.assert_order(trimmed)

    def fewest(self, machine):
        """How many of the reached states differ in their phase, or in what they write for some row."""
        states = machine.states()

        def steps(at):
            phase, moves = states[at]
            if phase > 0:
                return [moves]
            return moves if phase == 0 else [(None, following) for following in moves]

        reached, waiting = {0}, [0]
        while waiting:
            for _, following in steps(waiting.pop()):
                if following not in reached:
                    reached.add(following)
                    waiting.append(following)
        kinds = {at: (states[at][0], *[written for written, _ in steps(at)]) for at in reached}
        for _ in reached:
            told = {at: (kinds[at], *[kinds[following] for _, following in steps(at)]) for at in reached}
            numbers = {kind: number for number, kind in enumerate(dict.fromkeys(told.values()))}
            kinds = {at: numbers[told[at]] for at in reached}
        return len(set(kinds.values()))

    def assert_order(self, machine):
        """States are numbered in the order in which they are found."""
        found = [0]
        for phase, moves in machine.states():
            pairs = [moves] if phase > 0 else moves if phase == 0 else [(None, following) for following in moves]
            for _, following in pairs:
                if following not in found:
                    found.append(following)
        self.assertEqual(found, list(range(len(machine))))

    def test_example(self):
        double = Machine(BINARY, BINARY, 0, [(0, [(-1, 1), (0, 0), (1, 1)]), (0, [(-1, 0), (0, 1), (1, 0)])])
        self.assertEqual(len(trim(double)), 1)
        self.assertEqual(trim(double), COPY)

    def test_random_machines(self):
        chance = random.Random(7)
        sizes = set()
        for read, write in ((BINARY, BINARY), (BITS, BITS), (BITS, WIDE)):
            for delay in range(-3, 4):
                for many in (1, 2, 4, 6):
                    machine = random_machine(chance, read, write, delay, many)
                    trimmed = trim(machine)
                    self.assert_trimmed(machine, trimmed)
                    self.assertEqual(trim(trimmed), trimmed)
                    sizes.add(len(machine) - len(trimmed))
        self.assertGreater(len(sizes), 2)

    def copies(self, machine, times, chance):
        """The machine with several copies of each state, in another order, between which it changes as it likes."""
        states = machine.states()
        order = [(at, turn) for at in range(len(states)) for turn in range(times)]
        chance.shuffle(order)
        order.remove((0, 0))
        order.insert(0, (0, 0))
        places = {key: number for number, key in enumerate(order)}

        def other(following):
            return places[following, chance.randrange(times)]

        made = []
        for at, _ in order:
            phase, moves = states[at]
            if phase < 0:
                made.append((phase, [other(following) for following in moves]))
            elif phase > 0:
                made.append((phase, (moves[0], other(moves[1]))))
            else:
                made.append((phase, [(written, other(following)) for written, following in moves]))
        return Machine(machine.read_set(), machine.write_set(), machine.delay(), made)

    def test_copies_of_states_in_another_order(self):
        chance = random.Random(8)
        for delay in range(-3, 4):
            for many in (2, 4):
                machine = random_machine(chance, BINARY, BINARY, delay, many)
                trimmed = trim(machine)
                for times in (1, 2, 3):
                    self.assertEqual(trim(self.copies(machine, times, chance)), trimmed)

    def test_states_that_are_never_reached(self):
        for machine in (COPY, EARLY, LATE):
            states = machine.states()
            zero = len(states) - 1
            more = states + [(0, [(1, zero)] * 3), (1, (0, zero)), (-1, [zero] * 3), (2, (1, zero + 2))]
            self.assertEqual(trim(Machine(BINARY, BINARY, machine.delay(), more)), machine)

    def test_states_of_different_phases_stay_apart(self):
        zeros = [(0, [(0, 3)] * 3)]
        self.assertEqual(len(trim(Machine(BINARY, BINARY, 3, [(-3, [1] * 3), (-2, [2] * 3), (-1, [3] * 3)] + zeros))),
                         4)
        self.assertEqual(len(trim(Machine(BINARY, BINARY, -3, [(3, (0, 1)), (2, (0, 2)), (1, (0, 3))] + zeros))), 4)

    def test_differences_that_are_seen_late(self):
        chain = [(0, [(0, min(at + 1, 399))] * 3) for at in range(399)] + [(0, [(1, 399)] * 3)]
        machine = Machine(BINARY, BINARY, 0, chain)
        self.assertEqual(trim(machine), machine)
        self.assertEqual(len(trim(Machine(BINARY, BINARY, 0, chain[:-1] + [(0, [(0, 399)] * 3)]))), 1)

    def test_the_given_machine_stays_as_it_is(self):
        double = Machine(BINARY, BINARY, 0, [(0, [(-1, 1), (0, 0), (1, 1)]), (0, [(-1, 0), (0, 1), (1, 0)])])
        before = double.states()
        trim(double).states().clear()
        self.assertEqual(double.states(), before)
        self.assertEqual(trim(machine=double), COPY)


class ComposeTest(unittest.TestCase):
    def assert_composed(self, first, second, longest=5):
        made = compose(first, second)
        delay = first.delay() + second.delay()
        self.assertEqual((made.read_set(), made.write_set(), made.delay()),
                         (first.read_set(), second.write_set(), delay))
        for row in all_rows(first.read_set().digits, longest):
            written = second.run(first.run(row))
            self.assertEqual(made.run(row), written[:max(0, len(row) - delay)])
        self.assertEqual(trim(made), made)
        return made

    def test_example(self):
        self.assertEqual(compose(MINUS, MINUS).run((1, 0, -1)), (1, 0, -1))
        self.assertEqual(compose(MINUS, MINUS), COPY)

    def test_random_machines(self):
        chance = random.Random(9)
        for first_sets, second_sets in (((BINARY, BINARY), (BINARY, BINARY)), ((BITS, WIDE), (WIDE, BINARY)),
                                        ((BINARY, BITS), (BITS, WIDE))):
            for delay in range(-3, 4):
                for other in range(-3, 4):
                    self.assert_composed(random_machine(chance, *first_sets, delay, 2),
                                         random_machine(chance, *second_sets, other, 2))

    def test_three_machines_in_any_order(self):
        chance = random.Random(10)
        for delays in ((0, 1, -1), (2, -3, 1), (-2, 2, 3), (1, -2, -2), (3, -1, -2), (-1, -1, 3)):
            one, two, three = [random_machine(chance, BITS, BITS, delay, 2) for delay in delays]
            self.assertEqual(compose(compose(one, two), three), compose(one, compose(two, three)))

    def test_machines_of_functions(self):
        half = line((-1, Fraction(-1, 2)), (1, Fraction(1, 2)))
        quarter = line((-1, Fraction(-1, 4)), (1, Fraction(1, 4)))
        delay, table, _ = least_delay(half, BINARY, BINARY)
        machine = machine_of(table, BINARY, BINARY, delay)
        self.assertIsNone(judge(self.assert_composed(machine, machine), quarter))
        average = machine_of(least_delay(AVERAGE, WIDE, BINARY)[1], WIDE, BINARY, 1)
        both = self.assert_composed(average, machine, longest=3)
        self.assertIsNone(judge(both, line((-2, Fraction(-1, 2)), (2, Fraction(1, 2)))))

    def test_machines_that_do_not_fit(self):
        wide = Machine(BINARY, WIDE, 0, COPY.states())
        three = Machine(THREE, THREE, 0, [(0, [(0, 0)] * 5)])
        for first, second in ((wide, COPY), (COPY, three), (three, COPY), (COPY, compose(wide, Machine(
                WIDE, WIDE, 0, [(0, [(0, 0)] * 5)]))), (Machine(BINARY, BITS, 0, [(0, [(0, 0)] * 3)]), COPY)):
            if first.write_set() != second.read_set():
                self.assertEqual(caught(compose, first, second), ("Incompatible",))
        self.assertEqual(caught(compose, wide, COPY), ("Incompatible",))
        self.assertEqual(len(compose(COPY, wide)), 1)

    def test_delays_whose_sum_is_too_great(self):
        for one, other in ((60, 1), (1, 60), (31, 30), (-60, -1), (-30, -31), (60, 60), (-60, -60)):
            self.assertEqual(caught(compose, counter(1, one), counter(1, other)), ("LimitReached", 60))
        for one, other in ((60, 0), (30, 30), (-60, 0), (-29, -31), (60, -60), (-60, 60), (60, -1), (-60, 59),
                           (-1, 60)):
            made = compose(counter(1, one), counter(1, other))
            self.assertEqual(made.delay(), one + other)
            row = tuple([(1, -1, 0, 0, 1)[k % 5] for k in range(130)])
            self.assertEqual(made.run(row), counter(1, other).run(counter(1, one).run(row))[:130 - one - other])
        # Machines that do not fit come first.
        wide = Machine(BINARY, WIDE, 60, [(-60 + at, [at + 1] * 3) for at in range(60)] + [(0, [(0, 60)] * 3)])
        self.assertEqual(caught(compose, wide, counter(1, 60)), ("Incompatible",))

    def test_four_hundred_and_more_states(self):
        self.assertEqual(len(compose(counter(19), counter(20))), 380)
        self.assertEqual(len(compose(counter(25), counter(16))), 400)
        for first, second in ((counter(21), counter(20)), (counter(25), counter(16, -1)),
                              (counter(25, -1), counter(16)),
                              (counter(25, 1), counter(16)), (counter(25), counter(16, 1))):
            self.assertEqual(caught(compose, first, second), ("LimitReached", 400))
        self.assertEqual(caught(compose, counter(21, 31), counter(20, 30)), ("LimitReached", 60))

    def test_many_pairs_of_states_but_few_states(self):
        # The second machine writes nothing but zeros, however it counts.
        first = counter(390)
        second = Machine(BINARY, BINARY, 0, [(0, [(0, (at + 1) % 391)] * 3) for at in range(391)])
        self.assertEqual(len(compose(first, second)), 1)
        # Both count together, and what is written depends on the first digit of each only.
        back = compose(counter(23), counter(23))
        self.assertEqual(back, COPY)

    def test_the_given_machines_stay_as_they_are(self):
        first, second = counter(3, 1), counter(2, -2)
        before = (first.states(), second.states())
        compose(first=first, second=second).states().clear()
        self.assertEqual((first.states(), second.states()), before)


if __name__ == "__main__":
    unittest.main()

"""Promises [9] and [11] to [14]: states, tables, refutations and least delays."""

import copy
import unittest
from fractions import Fraction

from earlywrite.delays import (MAX_DELAY, MAX_STATES, MIN_DELAY, check_refutation, check_table, count_states, decide,
                               least_delay)
from earlywrite.digits import DigitSet, combined
from earlywrite.expressions import compile_expression, parse_expression
from earlywrite.lines import straight
from helpers import (BINARY, BITS, WIDE, caught, line, own_ends, own_points, own_read, own_safe, own_write, pair, plain,
                     points, shaped, value_at, zigzag)

IDENTITY = straight((1, 1), (0, 1), (-1, 1), (1, 1))
AVERAGE = straight((1, 2), (0, 1), (-2, 1), (2, 1))
LIMIT = 70

THREE = DigitSet(3, (-2, -1, 0, 1, 2))
FOUR = DigitSet(4, (-2, -1, 0, 1, 2))
SETS = ((BINARY, BINARY), (WIDE, BINARY), (BITS, BINARY), (BITS, DigitSet(2, (0, 1, 2))), (BINARY, WIDE),
        (THREE, THREE), (DigitSet(3, (0, 1, 2)), THREE), (THREE, DigitSet(3, (0, 1, 2, 3))),
        (FOUR, FOUR), (DigitSet(4, (0, 1, 2, 3)), FOUR), (FOUR, DigitSet(4, (-4, -2, -1, 1, 2, 4))))
SHAPES = (((0, 0), (1, 1)), ((0, 1), (1, 0)), ((0, Fraction(1, 4)), (1, Fraction(3, 4))),
          ((0, Fraction(3, 8)), (1, Fraction(3, 8))), ((0, 1), (Fraction(1, 2), 0), (1, 1)),
          ((0, Fraction(1, 4)), (Fraction(1, 3), Fraction(1, 2)), (1, Fraction(1, 3))),
          ((0, 0), (Fraction(1, 4), 1), (1, 1)))
TASKS = [(shaped(read, write, *shape), read, write) for read, write in SETS for shape in SHAPES]
DELAYS = range(-2, 4)


# A search of the test's own, with the steps of the helpers.


def own_phase(phase):
    return phase + 1 if phase < 0 else phase - 1 if phase > 0 else 0


def own_next(state, read, write, digit, written):
    phase, rows = state
    if digit is not None:
        rows = own_read(rows, read, digit)
    if written is not None:
        rows = own_write(rows, write, written)
    return own_phase(phase), rows


def own_first(function, delay):
    return -delay, tuple(plain(function))


def own_graph(function, read, write, delay, limit):
    """All states with what can be answered to each digit, or None if there are more states than the limit."""
    first = own_first(function, delay)
    graph, waiting = {first: None}, [first]
    while waiting:
        state = waiting.pop()
        graph[state] = {}
        for digit in [None] if state[0] > 0 else read.digits:
            found = [own_next(state, read, write, digit, written)
                     for written in ([None] if state[0] < 0 else write.digits)]
            graph[state][digit] = [following for following in found if own_safe(following[1], write)]
            for following in graph[state][digit]:
                if following not in graph:
                    graph[following] = None
                    waiting.append(following)
        if len(graph) > limit:
            return None
    return graph


def own_possible(graph, first):
    """Whether a writer can go on forever: states without an answer are dropped until nothing changes."""
    alive = set(graph)
    while True:
        kept = {state for state in alive if all(alive & set(answers) for answers in graph[state].values())}
        if kept == alive:
            return first in alive
        alive = kept


def is_normal(rows, read):
    """Whether points are those of a line function in normal form on the interval of a set."""
    if not 2 <= len(rows) <= 13 or (rows[0][0], rows[-1][0]) != own_ends(read):
        return False
    if any(one[0] >= other[0] for one, other in zip(rows, rows[1:])):
        return False
    return all((b[1] - a[1]) * (c[0] - b[0]) != (c[1] - b[1]) * (b[0] - a[0])
               for a, b, c in zip(rows, rows[1:], rows[2:]))


def is_index(number, count):
    return number is not None and 0 <= number < count


def own_is_table(function, read, write, delay, table):
    states = [(row[0], own_points(row[1])) for row in table]
    if not table or states[0] != own_first(function, delay):
        return False
    for (phase, rows), (_, _, moves) in zip(states, table):
        if not is_normal(rows, read) or not own_safe(rows, write):
            return False
        if [move[0] for move in moves] != ([None] if phase > 0 else list(read.digits)):
            return False
        for digit, written, number in moves:
            if (written is not None) if phase < 0 else (written not in write.digits):
                return False
            if not is_index(number, len(table)):
                return False
            if states[number] != own_next((phase, rows), read, write, digit, written):
                return False
    return True


def own_is_refutation(function, read, write, delay, refutation):
    states = [(row[0], own_points(row[1])) for row in refutation]
    if not refutation or states[-1] != own_first(function, delay):
        return False
    low, high = own_ends(read)
    bottom, top = own_ends(write)
    for at, (phase, given, digit, outcomes) in enumerate(refutation):
        rows = states[at][1]
        if not is_normal(rows, read):
            return False
        if (digit is not None) if phase > 0 else (digit not in read.digits):
            return False
        choices = [None] if phase < 0 else list(write.digits)
        if len(outcomes) != len(choices):
            return False
        for written, (kind, shown) in zip(choices, outcomes):
            following = own_next((phase, rows), read, write, digit, written)
            if kind == "row":
                if not is_index(shown, at) or states[shown] != following:
                    return False
            elif not low <= Fraction(*shown) <= high or bottom <= value_at(following[1], Fraction(*shown)) <= top:
                return False
    return True


class ConstantsTest(unittest.TestCase):
    def test_constants(self):
        self.assertEqual((MIN_DELAY, MAX_DELAY, MAX_STATES), (-6, 9, 400))


class ExamplesTest(unittest.TestCase):
    def setUp(self):
        self.sums = combined([BINARY, BINARY], [1, 1])
        self.half = straight((1, 2), (0, 1), self.sums.low(), self.sums.high())

    def test_count_states(self):
        self.assertEqual([count_states(self.half, self.sums, BINARY, 0), count_states(self.half, self.sums, BINARY, 1)],
                         [1, 6])

    def test_decide(self):
        self.assertEqual(decide(IDENTITY, BINARY, BINARY, 0),
                         ("possible", [(0, [((-1, 1), (-1, 1)), ((1, 1), (1, 1))],
                                        [(-1, -1, 0), (0, 0, 0), (1, 1, 0)])]))

    def test_least_delay(self):
        self.assertEqual(least_delay(self.half, self.sums, BINARY)[0], 1)
        zero = straight((0, 1), (0, 1), (-1, 1), (1, 1))
        self.assertEqual([least_delay(zero, BINARY, BINARY)[0], least_delay(zero, BINARY, BINARY)[2]], [-6, None])

    def test_check_table(self):
        rows = IDENTITY.points()
        self.assertEqual([check_table(IDENTITY, BINARY, BINARY, 0, [(0, rows, [(-1, -1, 0), (0, 0, 0), (1, n, 0)])])
                          for n in (0, 1)], [False, True])

    def test_check_refutation(self):
        outcomes = [("out", (2, 1)), ("out", (2, 1)), ("out", (-2, 1))]
        self.assertIs(check_refutation(self.half, self.sums, BINARY, 0, [(0, self.half.points(), 1, outcomes)]), True)


class ManyTasksTest(unittest.TestCase):
    def test_every_task_with_every_delay(self):
        seen = {"possible": 0, "impossible": 0, "limit": 0}
        for function, read, write in TASKS:
            for delay in DELAYS:
                with self.subTest((read, write, function.points(), delay)):
                    seen[self.check(function, read, write, delay)] += 1
        self.assertGreater(min(seen.values()), 20, seen)

    def check(self, *task):
        graph = own_graph(*task, LIMIT)
        if graph is None:
            for call in (count_states, decide):
                self.assertEqual(caught(call, *task, limit=LIMIT), ("LimitReached", LIMIT))
            return "limit"
        self.assertEqual(count_states(*task, limit=LIMIT), len(graph))
        answer, shown = decide(*task, limit=LIMIT)
        possible = own_possible(graph, own_first(task[0], task[3]))
        self.assertEqual(answer, "possible" if possible else "impossible")
        own_check, check, other = ((own_is_table, check_table, check_refutation) if possible
                                   else (own_is_refutation, check_refutation, check_table))
        self.assertTrue(own_check(*task, shown))
        self.assertIs(check(*task, shown), True)
        self.assertIs(other(*task, []), False)
        self.assertLessEqual(len(shown), len(graph))
        self.check_kinds(answer, shown)
        return answer

    def check_kinds(self, answer, shown):
        self.assertIs(type(shown), list)
        for row in shown:
            self.assertEqual([type(part) for part in row[:2]], [int, list])
            self.assertIs(type(row[-1]), list)
            self.assertEqual({type(part) for part in row[-1]}, {tuple})
            self.assertEqual(len(row), 3 if answer == "possible" else 4)

    def test_limits_that_are_just_enough(self):
        for function, read, write in TASKS[::3]:
            for delay in (-1, 0, 1):
                graph = own_graph(function, read, write, delay, LIMIT)
                if graph is not None:
                    many = len(graph)
                    self.assertEqual(count_states(function, read, write, delay, limit=many), many)
                    self.assertEqual(decide(function, read, write, delay, limit=many),
                                     decide(function, read, write, delay))
                    if many > 1:
                        for call in (count_states, decide):
                            self.assertEqual(caught(call, function, read, write, delay, limit=many - 1),
                                             ("LimitReached", many - 1))

    def test_the_default_limit(self):
        for text, delay, many in (("1/200*x", 0, 399), ("1/201*x", -1, 400), ("1/201*x", 0, 401)):
            function = compile_expression(parse_expression(text), (-1, 1), (1, 1))
            self.assertEqual(len(own_graph(function, BINARY, BINARY, delay, 500)), many)
            if many <= 400:
                self.assertEqual(count_states(function, BINARY, BINARY, delay), many)
                answer, table = decide(function, BINARY, BINARY, delay)
                self.assertTrue(own_is_table(function, BINARY, BINARY, delay, table))
            else:
                for call in (count_states, decide):
                    self.assertEqual(caught(call, function, BINARY, BINARY, delay), ("LimitReached", 400))

    def test_greater_delays_than_a_possible_one(self):
        checked = 0
        for function, read, write in TASKS:
            before = False
            for delay in range(-3, 4):
                graph = own_graph(function, read, write, delay, LIMIT)
                if graph is None:
                    break
                possible = decide(function, read, write, delay)[0] == "possible"
                self.assertTrue(possible or not before)
                checked += before
                before = possible
        self.assertGreater(checked, 50)

    def test_tables_and_refutations_never_both(self):
        # A table is no refutation and the other way round, whatever is made of its rows.
        _, table = decide(AVERAGE, WIDE, BINARY, 1)
        _, refutation = decide(AVERAGE, WIDE, BINARY, 0)
        self.assertIs(check_table(AVERAGE, WIDE, BINARY, 0, table), False)
        self.assertIs(check_refutation(AVERAGE, WIDE, BINARY, 1, refutation), False)
        self.assertIs(check_refutation(AVERAGE, WIDE, BINARY, 1, [(row[0], row[1], None, []) for row in table]), False)
        self.assertIs(check_table(AVERAGE, WIDE, BINARY, 0, [(row[0], row[1], []) for row in refutation]), False)

    def test_results_are_new(self):
        first = decide(AVERAGE, WIDE, BINARY, 1)
        before = copy.deepcopy(first)
        for row in first[1]:
            row[1].clear()
            row[2].clear()
        first[1].clear()
        self.assertEqual(decide(AVERAGE, WIDE, BINARY, 1), before)
        refutation = decide(AVERAGE, WIDE, BINARY, 0)
        before = copy.deepcopy(refutation)
        refutation[1][0][3].clear()
        refutation[1][0][1].clear()
        self.assertEqual(decide(AVERAGE, WIDE, BINARY, 0), before)
        self.assertEqual(AVERAGE.points(), points([(-2, -1), (2, 1)]))


class ErrorsTest(unittest.TestCase):
    CALLS = ((count_states, 0), (decide, 0), (least_delay,), (check_table, 0, []), (check_refutation, 0, []))

    def assert_error(self, expected, function, read, write):
        for call, *rest in self.CALLS:
            self.assertEqual(caught(call, function, read, write, *rest), expected, call)
            # The task errors come before an invalid delay.
            if rest:
                self.assertEqual(caught(call, function, read, write, 99, *rest[1:]), expected, call)
        self.assertEqual(caught(least_delay, function, read, write, first=3, last=2), expected)

    def test_incompatible(self):
        self.assert_error(("Incompatible",), IDENTITY, BINARY, THREE)
        self.assert_error(("Incompatible",), IDENTITY, THREE, BINARY)
        self.assert_error(("Incompatible",), IDENTITY, WIDE, BINARY)
        self.assert_error(("Incompatible",), line((-1, 0), (2, 0)), BINARY, BINARY)
        self.assert_error(("Incompatible",), line((0, 0), (1, 0)), BINARY, BINARY)

    def test_out_of_range(self):
        tiny = Fraction(1, 10 ** 11)
        for rows in ([(-1, 0), (1, 1 + tiny)], [(-1, -1 - tiny), (1, 1)], [(-1, 0), (0, 2), (1, 0)], [(-1, 3), (1, 4)]):
            self.assert_error(("OutOfRange",), line(*rows), BINARY, BINARY)

    def test_not_redundant(self):
        self.assert_error(("NotRedundant",), line((-1, 0), (1, 1)), BINARY, BITS)
        self.assert_error(("NotRedundant",), IDENTITY, THREE, DigitSet(3, (-2, 0, 2)))
        # The same gaps just are too wide, or not.
        self.assertFalse(DigitSet(4, (-3, -1, 1, 3)).is_redundant())
        self.assert_error(("NotRedundant",), line((0, 0), (1, 1)), DigitSet(4, (0, 1, 2, 3)),
                          DigitSet(4, (-3, -1, 1, 3)))

    def test_two_at_once(self):
        self.assert_error(("Incompatible",), line((-1, 5), (1, 6)), BINARY, DigitSet(3, (0, 1, 2)))
        self.assert_error(("Incompatible",), line((0, 5), (1, 6)), BINARY, BINARY)
        self.assert_error(("Incompatible",), line((0, 0), (1, 1)), BINARY, BITS)
        self.assert_error(("OutOfRange",), line((-1, 0), (1, 2)), BINARY, BITS)

    def test_delays(self):
        _, table = decide(IDENTITY, BINARY, BINARY, 0)
        for delay in (-7, 10, -8, 11, 10 ** 29, -10 ** 29):
            for call, *rest in ((count_states,), (decide,), (check_table, table), (check_refutation, [])):
                self.assertEqual(caught(call, IDENTITY, BINARY, BINARY, delay, *rest), ("InvalidDelay",))
        zero = line((-1, 0), (1, 0))
        for delay in (-6, 9):
            answer, table = decide(zero, BINARY, BINARY, delay)
            self.assertEqual(answer, "possible")
            self.assertTrue(own_is_table(zero, BINARY, BINARY, delay, table))
            self.assertIs(check_table(zero, BINARY, BINARY, delay, table), True)
            self.assertIs(check_refutation(zero, BINARY, BINARY, delay, []), False)
            self.assertEqual(count_states(zero, BINARY, BINARY, delay),
                             len(own_graph(zero, BINARY, BINARY, delay, 400)))

    def test_an_invalid_delay_comes_before_the_limit(self):
        steep = zigzag(12, -1, 1)
        self.assertEqual(caught(decide, steep, BINARY, BINARY, 10, limit=1), ("InvalidDelay",))
        self.assertEqual(caught(decide, steep, BINARY, BINARY, 9, limit=1), ("LimitReached", 1))


class LeastDelayTest(unittest.TestCase):
    def test_many_tasks(self):
        with_refutation = 0
        for function, read, write in TASKS:
            answers = {}
            for delay in DELAYS:
                graph = own_graph(function, read, write, delay, LIMIT)
                if graph is None:
                    break
                answers[delay] = own_possible(graph, own_first(function, delay))
                if answers[delay]:
                    break
            if True in answers.values():
                delay, table, refutation = least_delay(function, read, write, first=-2, last=3, limit=LIMIT)
                self.assertIs(answers[delay], True)
                self.assertTrue(own_is_table(function, read, write, delay, table))
                self.assertIs(refutation is None, delay == -2)
                if refutation is not None:
                    with_refutation += 1
                    self.assertTrue(own_is_refutation(function, read, write, delay - 1, refutation))
                self.assertEqual(least_delay(function, read, write, first=delay, last=delay)[::2], (delay, None))
                self.assertEqual(least_delay(function, read, write, first=delay, last=9)[::2], (delay, None))
                self.assertEqual(least_delay(function, read, write, last=delay, first=-2)[0], delay)
                if delay > -2:
                    self.assertEqual(caught(least_delay, function, read, write, first=-2, last=delay - 1),
                                     ("LimitReached", delay - 1))
            elif len(answers) < len(DELAYS):
                self.assertEqual(caught(least_delay, function, read, write, first=-2, last=3, limit=LIMIT),
                                 ("LimitReached", LIMIT))
            else:
                self.assertEqual(caught(least_delay, function, read, write, first=-2, last=3, limit=LIMIT),
                                 ("LimitReached", 3))
        self.assertGreater(with_refutation, 20)

    def test_the_whole_range(self):
        for function, read, write, expected in ((IDENTITY, BINARY, BINARY, 0), (AVERAGE, WIDE, BINARY, 1),
                                                (line((-1, Fraction(-1, 64)), (1, Fraction(1, 64))), BINARY, BINARY,
                                                 -6),
                                                (line((-1, Fraction(-1, 32)), (1, Fraction(1, 32))), BINARY, BINARY,
                                                 -5)):
            delay, table, refutation = least_delay(function, read, write)
            self.assertEqual(delay, expected)
            self.assertTrue(own_is_table(function, read, write, delay, table))
            self.assertIs(refutation is None, delay == -6)
            if refutation is not None:
                self.assertTrue(own_is_refutation(function, read, write, delay - 1, refutation))
        self.assertEqual(least_delay(IDENTITY, BINARY, BINARY), least_delay(IDENTITY, BINARY, BINARY, first=-6, last=9,
                                                                            limit=400))

    def test_invalid_ranges(self):
        for first, last in ((1, 0), (9, -6), (-7, 0), (-7, -7), (0, 10), (10, 10), (-7, 10), (10 ** 29, 0), (10, 9),
                            (-6, -7)):
            self.assertEqual(caught(least_delay, IDENTITY, BINARY, BINARY, first=first, last=last), ("InvalidDelay",))
            self.assertEqual(caught(least_delay, IDENTITY, BINARY, BINARY, first=first, last=last, limit=1),
                             ("InvalidDelay",))
        self.assertEqual(caught(least_delay, IDENTITY, BINARY, BINARY, first=10), ("InvalidDelay",))
        self.assertEqual(caught(least_delay, IDENTITY, BINARY, BINARY, last=-7), ("InvalidDelay",))

    def test_no_possible_delay_in_the_range(self):
        for last in (-6, -3, 0):
            self.assertEqual(caught(least_delay, AVERAGE, WIDE, BINARY, last=last), ("LimitReached", last))
        self.assertEqual(caught(least_delay, AVERAGE, WIDE, BINARY, first=0, last=0), ("LimitReached", 0))
        self.assertEqual(least_delay(AVERAGE, WIDE, BINARY, first=0, last=1)[0], 1)

    def test_the_limit_of_each_delay_that_is_tried(self):
        many = {delay: count_states(AVERAGE, WIDE, BINARY, delay) for delay in (0, 1)}
        self.assertEqual(many, {0: 1, 1: 6})
        self.assertEqual(least_delay(AVERAGE, WIDE, BINARY, limit=6)[0], 1)
        self.assertEqual(caught(least_delay, AVERAGE, WIDE, BINARY, limit=5), ("LimitReached", 5))
        # The delay 0 is impossible within the limit, so that the range ends first.
        self.assertEqual(caught(least_delay, AVERAGE, WIDE, BINARY, last=0, limit=5), ("LimitReached", 0))
        self.assertEqual(least_delay(IDENTITY, BINARY, BINARY, limit=1, first=0)[0], 0)


def changed(rows, at, part, value):
    """A copy of rows in which one part of one row is another one."""
    made = copy.deepcopy(rows)
    made[at] = tuple([value if place == part else old for place, old in enumerate(made[at])])
    return made


def other_points(rows):
    """Lists of points that are not those given."""
    (x0, y0), *_, (x1, y1) = [(Fraction(*x), Fraction(*y)) for x, y in rows]
    yield rows[::-1]
    yield rows[:1]
    yield []
    yield rows + rows[-1:]
    yield [(rows[0][0], pair(y0 + Fraction(1, 7)))] + rows[1:]
    yield rows[:-1] + [(rows[-1][0], pair(y1 - Fraction(1, 7)))]
    yield [(pair(x0 - 1), rows[0][1])] + rows[1:]
    yield rows[:-1] + [(pair(x1 + 1), rows[-1][1])]
    yield rows[:1] + [(pair((x0 + x1) / 2), pair(5))] + rows[-1:]
    yield [(pair(x0 + (x1 - x0) * Fraction(k, 13)), pair(Fraction(k % 2, 9))) for k in range(14)]
    # A further point between the first two changes nothing but the form.
    x2, y2 = Fraction(*rows[1][0]), Fraction(*rows[1][1])
    yield rows[:1] + [(pair((x0 + x2) / 2), pair((y0 + y2) / 2))] + rows[1:]


def other_lists(items):
    """Lists with items removed, repeated or exchanged."""
    for at in range(len(items)):
        yield items[:at] + items[at + 1:]
        yield items[:at + 1] + items[at:]
    for at in range(len(items) - 1):
        yield items[:at] + [items[at + 1], items[at]] + items[at + 2:]
    yield []


CHECKED = [(AVERAGE, WIDE, BINARY, 1), (IDENTITY, BINARY, BINARY, 0), (IDENTITY, BINARY, BINARY, 2),
           (line((-1, Fraction(-1, 4)), (1, Fraction(1, 4))), BINARY, BINARY, -2),
           (line((-1, 1), (0, 0), (1, 1)), BINARY, BINARY, 0), (shaped(THREE, THREE, *SHAPES[4]), THREE, THREE, 1)]
REFUTED = [(AVERAGE, WIDE, BINARY, 0), (IDENTITY, BINARY, BINARY, -1), (IDENTITY, BINARY, BINARY, -2),
           (*TASKS[5], 0), (*TASKS[5], -2), (*TASKS[13], 2), (*TASKS[33], -1),
           (line((-1, -1), (Fraction(-1, 4), -1), (Fraction(1, 4), 1), (1, 1)), BINARY, BINARY, 1),
           (line((-1, Fraction(-1, 4)), (1, Fraction(1, 4))), BINARY, BINARY, -3)]


class CheckTableTest(unittest.TestCase):
    def assert_all(self, task, tables):
        """The checks of the package and of the test agree; returns how many are right."""
        right = 0
        for table in tables:
            expected = own_is_table(*task, table)
            before = copy.deepcopy(table)
            self.assertIs(check_table(*task, table), expected, (task, table))
            self.assertEqual(table, before)
            right += expected
        return right

    def test_tuples_instead_of_lists(self):
        for task in CHECKED:
            answer, table = decide(*task)
            self.assertEqual(answer, "possible")
            self.assertIs(check_table(*task, tuple([(phase, tuple(rows), tuple(moves)) for phase, rows,
                                                    moves in table])),
                          True)

    def test_phases(self):
        for task in CHECKED:
            _, table = decide(*task)
            tables = [changed(table, at, 0, row[0] + by) for at, row in enumerate(table) for by in (1, -1, 5, -5)]
            self.assertEqual(self.assert_all(task, tables), 0)

    def test_points(self):
        for task in CHECKED:
            _, table = decide(*task)
            tables = [changed(table, at, 1, rows) for at, row in enumerate(table) for rows in other_points(row[1])]
            self.assertEqual(self.assert_all(task, tables), 0)

    def test_moves(self):
        for task in CHECKED:
            _, table = decide(*task)
            tables = [changed(table, at, 2, moves) for at, row in enumerate(table) for moves in other_lists(row[2])
                      if moves != row[2]]
            self.assertEqual(self.assert_all(task, tables), 0)

    def test_digits_written_digits_and_indexes(self):
        for task in CHECKED:
            _, table = decide(*task)
            tables = []
            for at, (_, _, moves) in enumerate(table):
                for place, (digit, written, number) in enumerate(moves):
                    for other in ([(d, written, number) for d in (None, -3, -2, -1, 0, 1, 2, 3) if d != digit]
                                  + [(digit, w, number) for w in (None, -3, -2, -1, 0, 1, 2, 3) if w != written]
                                  + [(digit, written, k) for k in (None, -1, -len(table), len(table), 10 ** 29,
                                                                   *range(len(table))) if k != number]):
                        tables.append(changed(table, at, 2, moves[:place] + [other] + moves[place + 1:]))
            self.assertEqual(self.assert_all(task, tables), 0)

    def test_rows(self):
        for task in CHECKED:
            _, table = decide(*task)
            self.assertGreater(self.assert_all(task, [table + [row] for row in table]), 0)
            self.assert_all(task, other_lists(table))
            self.assert_all(task, [[row] + table for row in table])
        self.assertIs(check_table(*CHECKED[0], []), False)

    def test_rows_that_no_move_leads_to(self):
        table = [(0, IDENTITY.points(), [(-1, -1, 0), (0, 0, 0), (1, 1, 0)])]
        zero = points([(-1, 0), (1, 0)])
        added = [
            ((0, zero, [(-1, 0, 1), (0, 0, 1), (1, 0, 1)]), True),
            ((0, zero, [(-1, 0, 0), (0, 0, 1), (1, 0, 1)]), False),
            ((-1, zero, [(-1, None, 1), (0, None, 1), (1, None, 1)]), False),
            ((-1, IDENTITY.points(), [(-1, None, 0), (0, None, 0), (1, None, 0)]), False),
            ((1, points([(-1, Fraction(-1, 2)), (1, Fraction(1, 2))]), [(None, 0, 0)]), True),
            ((1, points([(-1, 0), (1, 1)]), [(None, 1, 0)]), True),
            ((1, points([(-1, 0), (1, 1)]), [(None, 0, 0)]), False),
            ((2, points([(-1, 0), (1, 1)]), [(None, 1, 0)]), False),
            ((1, points([(-1, 0), (1, 1)]), []), False),
            ((0, points([(-1, 0), (1, 2)]), [(-1, 0, 0), (0, 0, 0), (1, 0, 0)]), False),
        ]
        for row, expected in added:
            self.assertEqual(self.assert_all((IDENTITY, BINARY, BINARY, 0), [table + [row]]), expected, row)

    def test_added_rows_that_lead_to_themselves(self):
        table = [(0, IDENTITY.points(), [(-1, -1, 0), (0, 0, 0), (1, 1, 0)])]
        stay = [(-1, 0, 1), (0, 0, 1), (1, 0, 1)]
        for rows, expected in (([(-1, 0), (1, 0)], True), ([(-2, 0), (1, 0)], False), ([(-1, 0), (2, 0)], False),
                               ([(-2, 0), (2, 0)], False), ([(0, 0), (1, 0)], False)):
            self.assertEqual(self.assert_all((IDENTITY, BINARY, BINARY, 0), [table + [(0, points(rows), stay)]]),
                             expected)
        # A point in the middle of a straight line is not one of the points of the function.
        middle = [(0, points([(-1, 0), (0, 0), (1, 0)]), [(-1, 0, 2), (0, 0, 1), (1, 0, 2)]),
                  (0, points([(-1, 0), (1, 0)]), [(-1, 0, 2), (0, 0, 2), (1, 0, 2)])]
        self.assertEqual(self.assert_all((IDENTITY, BINARY, BINARY, 0), [table + middle]), 0)

    def test_a_function_with_twelve_pieces(self):
        function = line(*[(-1 + Fraction(k, 6), Fraction(k % 2, 24)) for k in range(13)])
        answer, table = decide(function, BINARY, BINARY, 1)
        self.assertEqual((answer, len(table[0][1])), ("possible", 13))
        self.assertEqual(self.assert_all((function, BINARY, BINARY, 1), [table]), 1)

    def test_rows_with_great_phases(self):
        task = (line((-1, 0), (1, 0)), BINARY, BINARY, 0)
        zero = points([(-1, 0), (1, 0)])
        table = [(0, zero, [(-1, 0, 0), (0, 0, 0), (1, 0, 0)])]
        table += [(k, zero, [(None, 0, k - 1)]) for k in range(1, 70)]
        table += [(-k, zero, [(digit, None, 69 + k - 1 if k > 1 else 0) for digit in (-1, 0, 1)]) for k in range(1, 70)]
        self.assertEqual(self.assert_all(task, [table]), 1)

    def test_another_delay_or_function(self):
        for task in CHECKED:
            _, table = decide(*task)
            for delay in range(-6, 10):
                self.assertEqual(self.assert_all((*task[:3], delay), [table]), delay == task[3])
        _, table = decide(*CHECKED[1])
        self.assertEqual(self.assert_all((line((-1, 1), (1, -1)), BINARY, BINARY, 0), [table]), 0)


class CheckRefutationTest(unittest.TestCase):
    def assert_all(self, task, refutations):
        right = 0
        for refutation in refutations:
            expected = own_is_refutation(*task, refutation)
            before = copy.deepcopy(refutation)
            self.assertIs(check_refutation(*task, refutation), expected, (task, refutation))
            self.assertEqual(refutation, before)
            right += expected
        return right

    def test_tuples_instead_of_lists(self):
        for task in REFUTED:
            answer, refutation = decide(*task)
            self.assertEqual(answer, "impossible")
            self.assertIs(check_refutation(*task, tuple([(phase, tuple(rows), digit, tuple(outcomes))
                                                         for phase, rows, digit, outcomes in refutation])), True)

    def test_rows_of_all_phases_occur(self):
        phases = {row[0] for task in REFUTED for row in decide(*task)[1]}
        self.assertTrue({-1, 0, 1, 2} <= phases, phases)
        kinds = {outcome[0] for task in REFUTED for row in decide(*task)[1] for outcome in row[3]}
        self.assertEqual(kinds, {"row", "out"})

    def test_phases(self):
        for task in REFUTED:
            _, shown = decide(*task)
            made = [changed(shown, at, 0, row[0] + by) for at, row in enumerate(shown) for by in (1, -1, 5, -5)]
            self.assertEqual(self.assert_all(task, made), 0)

    def test_points(self):
        for task in REFUTED:
            _, shown = decide(*task)
            self.assert_all(task, [changed(shown, at, 1, rows) for at, row in enumerate(shown)
                                   for rows in other_points(row[1])])
            last = len(shown) - 1
            self.assertEqual(self.assert_all(task, [changed(shown, last, 1, rows)
                                                    for rows in other_points(shown[last][1])]), 0)

    def test_digits(self):
        for task in REFUTED:
            _, shown = decide(*task)
            self.assert_all(task, [changed(shown, at, 2, digit) for at, row in enumerate(shown)
                                   for digit in (None, -3, -2, -1, 0, 1, 2, 3, 10 ** 29) if digit != row[2]])
            made = [changed(shown, at, 2, digit) for at, row in enumerate(shown)
                    for digit in ((3, None) if row[0] <= 0 else (0, 1, 3))]
            self.assertEqual(self.assert_all(task, made), 0)

    def test_outcomes(self):
        right = 0
        for task in REFUTED:
            _, shown = decide(*task)
            made = []
            for at, row in enumerate(shown):
                for place, outcome in enumerate(row[3]):
                    others = [("row", k) for k in (-1, -len(shown), len(shown), 10 ** 29, *range(len(shown)))]
                    others += [("out", pair(Fraction(k, 4))) for k in range(-12, 13)]
                    for other in others:
                        if other != outcome:
                            made.append(changed(shown, at, 3, row[3][:place] + [other] + row[3][place + 1:]))
            right += self.assert_all(task, made)
            made = [changed(shown, at, 3, outcomes) for at, row in enumerate(shown) for outcomes in other_lists(row[3])]
            self.assert_all(task, made)
        # Another place at which the value is outside is as good.
        self.assertGreater(right, 0)

    def test_places_at_the_edges(self):
        # After reading 1 and writing 1, the values of AVERAGE are z / 2 - 1/2, and -1 is still inside.
        good = [("out", (2, 1)), ("out", (2, 1)), ("out", (-2, 1))]
        for place, outcome, expected in (
            (2, ("out", (-1, 1)), False), (2, ("out", (-1001, 1000)), True), (2, ("out", (-2, 1)), True),
            (2, ("out", (-2001, 1000)), False), (2, ("out", (-3, 1)), False), (2, ("out", (2, 1)), False),
            (0, ("out", (-1, 1)), False), (0, ("out", (-999, 1000)), True), (0, ("out", (2001, 1000)), False),
        ):
            outcomes = good[:place] + [outcome] + good[place + 1:]
            shown = [(0, AVERAGE.points(), 1, outcomes)]
            self.assertEqual(self.assert_all((AVERAGE, WIDE, BINARY, 0), [shown]), expected, outcome)

    def test_rows(self):
        for task in REFUTED:
            _, shown = decide(*task)
            self.assert_all(task, other_lists(shown))
            self.assert_all(task, [[row] + shown for row in shown])
        self.assertIs(check_refutation(*REFUTED[0], []), False)

    def test_a_row_that_refers_to_itself_or_to_a_later_one(self):
        shown = [(0, IDENTITY.points(), 0, [("out", (1, 1)), ("row", 0), ("out", (-1, 1))])]
        self.assertEqual(self.assert_all((IDENTITY, BINARY, BINARY, 0), [shown, shown * 2]), 0)

    def test_rows_that_are_not_safe(self):
        task = (AVERAGE, WIDE, BINARY, 0)
        # After reading 1 and writing -1 the values are (z + 3) / 2, which is not safe; reading 2 then decides.
        beyond = points([(-2, Fraction(1, 2)), (2, Fraction(5, 2))])
        out = ("out", (2, 1))
        first = [("row", 0), out, ("out", (-2, 1))]
        self.assertEqual(self.assert_all(task, [[(0, beyond, 2, [out] * 3), (0, AVERAGE.points(), 1, first)]]), 1)
        self.assertEqual(self.assert_all(task, [[(0, beyond, -2, [("out", (-2, 1))] * 3),
                                                 (0, AVERAGE.points(), 1, first)]]), 0)

    def test_rows_that_are_not_needed(self):
        task = (AVERAGE, WIDE, BINARY, 0)
        _, shown = decide(*task)
        beyond = points([(-2, 0), (2, 9)])
        out = ("out", (2, 1))
        for row, expected in (((-1, beyond, 2, [out]), True), ((-7, beyond, 0, [out]), True),
                              ((-1, beyond, -2, [out]), True),
                              ((-1, beyond, 2, [("out", (-2, 1))]), True),
                              ((-1, beyond, -2, [("out", (-2, 1))]), False),
                              ((-1, beyond, 2, [out, out]), False), ((3, beyond, None, [out] * 3), True),
                              ((3, beyond, 0, [out] * 3), False), ((3, beyond, None, [out]), False),
                              ((0, beyond, None, [out] * 3), False), ((0, beyond, 2, []), False),
                              ((-1, AVERAGE.points(), 2, [out]), False)):
            self.assertEqual(self.assert_all(task, [[row] + shown]), expected, row)

    def test_points_of_rows_that_are_not_needed(self):
        task = (AVERAGE, WIDE, BINARY, 0)
        _, shown = decide(*task)
        for rows, expected in (
            ([(-2, 9), (2, 9)], True), ([(-3, 9), (2, 9)], False), ([(-2, 9), (3, 9)], False),
            ([(-2, 9), (1, 9)], False),
            ([(-2, 9), (0, 9), (2, 9)], False), ([(-2, 9), (0, 8), (2, 9)], True), ([(-2, 9)], False), ([], False),
            ([(2, 9), (-2, 9)], False), ([(-2, 9), (-2, 8), (2, 9)], False), ([(-2, 9), (2, 8), (2, 9)], False),
            ([(-2 + Fraction(k, 3), 9 + k % 2) for k in range(13)], True),
            ([(-2 + Fraction(4 * k, 13), 9 + k % 2) for k in range(14)], False),
            ([(-2 + Fraction(4 * k, 14), 9 + k % 2) for k in range(15)], False),
        ):
            row = (-1, points(rows), 0, [("out", (0, 1))])
            self.assertEqual(self.assert_all(task, [[row] + shown]), expected, rows)

    def test_another_delay_or_function(self):
        for task in REFUTED:
            _, shown = decide(*task)
            for delay in range(-6, 10):
                self.assertEqual(self.assert_all((*task[:3], delay), [shown]), delay == task[3])


class KeywordsTest(unittest.TestCase):
    def test_keywords(self):
        task = {"write": BINARY, "read": WIDE, "function": AVERAGE}
        self.assertEqual(count_states(delay=1, limit=9, **task), 6)
        answer, table = decide(limit=6, delay=1, **task)
        self.assertEqual(answer, "possible")
        self.assertIs(check_table(table=table, delay=1, **task), True)
        delay, shown, refutation = least_delay(limit=7, last=2, first=0, **task)
        self.assertEqual((delay, shown), (1, table))
        self.assertIs(check_refutation(refutation=refutation, delay=0, **task), True)

    def test_keyword_only(self):
        for call, *rest in ((count_states, 1, 400), (decide, 1, 400), (least_delay, -6)):
            self.assertRaises(TypeError, call, AVERAGE, WIDE, BINARY, *rest)


if __name__ == "__main__":
    unittest.main()

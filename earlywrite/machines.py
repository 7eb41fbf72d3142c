"""Machines: writers with finitely many states.

Inside of this file, a rule is a pair (phase, moves) in which the moves have one form in all phases: a tuple of pairs
(written, next state), one for each digit of the reading set, or only one if the phase is above 0. What is written
is None if the phase is below 0. The rules of a machine are a tuple with one rule for each state.
"""

from earlywrite.delays import next_phase
from earlywrite.errors import Incompatible, InvalidDelay, InvalidMachine, InvalidRow, LimitReached
from earlywrite.remaining import are_safe, is_defined_on, points_after_read, points_after_write

MAX_MACHINE_DELAY = 60
MAX_MACHINE_STATES = 400
MAX_PAIRS = 3000
WHOLE_MACHINE = -1


class Machine:
    """A machine, kept as its sets, its delay and its rules."""

    def __init__(self, read, write, delay, states):
        if read.base != write.base:
            raise Incompatible()
        if abs(delay) > MAX_MACHINE_DELAY:
            raise InvalidDelay()
        if not 1 <= len(states) <= MAX_MACHINE_STATES or states[0][0] != -delay:
            raise InvalidMachine(WHOLE_MACHINE)
        phases = [phase for phase, moves in states]
        for number, (phase, moves) in enumerate(states):
            if not is_state(phase, moves, phases, read, write):
                raise InvalidMachine(number)
        self.reading = read
        self.writing = write
        self.lateness = delay
        self.rules = tuple([(phase, tuple(pairs_of(phase, moves))) for phase, moves in states])
        self.places = {digit: at for at, digit in enumerate(read.digits)}

    def __len__(self):
        return len(self.rules)

    def __eq__(self, other):
        return (isinstance(other, Machine) and self.reading == other.reading and self.writing == other.writing
                and self.lateness == other.lateness and self.rules == other.rules)

    def __repr__(self):
        return f"Machine(delay {self.lateness}, {len(self.rules)} states)"

    def read_set(self):
        """Return the digit set for reading."""
        return self.reading

    def write_set(self):
        """Return the digit set for writing."""
        return self.writing

    def delay(self):
        """Return the delay."""
        return self.lateness

    def states(self):
        """Return the list of the states."""
        return states_of(self.rules)

    def run(self, row):
        """Return the row of all digits that are written after reading a row."""
        if not self.reading.has_row(row):
            raise InvalidRow()
        state, written = self.begin()
        digits = list(written)
        for digit in row:
            state, written = self.after(state, digit)
            digits.extend(written)
        return tuple(digits)

    def begin(self):
        """Return the state in which the first digit is read, and the row that is written before."""
        state = 0
        digits = []
        while self.phase(state) > 0:
            written, state = self.move(state, None)
            digits.append(written)
        return state, tuple(digits)

    def after(self, state, digit):
        """Return the state after reading a digit, and the row of what is written then."""
        written, following = self.move(state, digit)
        return following, (() if written is None else (written,))

    def phase(self, state):
        """Return the phase of a state."""
        return self.rules[state][0]

    def move(self, state, digit):
        """Return the pair (written, next state) for a digit that is read, which is None in a phase above 0."""
        phase, moves = self.rules[state]
        return moves[0] if phase > 0 else moves[self.places[digit]]


def pairs_of(phase, moves):
    """Return the list of the pairs (written, next state) of the moves of a state."""
    if phase < 0:
        return [(None, following) for following in moves]
    return [moves] if phase > 0 else list(moves)


def is_state(phase, moves, phases, read, write):
    """Return whether a state has the right form in a machine whose states have the given phases."""
    pairs = pairs_of(phase, moves)
    if phase <= 0 and len(pairs) != len(read.digits):
        return False
    return all([is_pair(phase, pair, phases, write) for pair in pairs])


def is_pair(phase, pair, phases, write):
    """Return whether a pair (written, next state) is right in a phase."""
    if not isinstance(pair, tuple) or len(pair) != 2:
        return False
    written, following = pair
    if phase >= 0 and written not in write.digits:
        return False
    # A state with another phase than its moves were made for may have pairs where numbers are expected.
    if not isinstance(following, int) or not 0 <= following < len(phases):
        return False
    return phases[following] == next_phase(phase)


def states_of(rules):
    """Return the list of the states that have some rules."""
    return [(phase, moves_of(phase, pairs)) for phase, pairs in rules]


def moves_of(phase, pairs):
    """Return the moves of a state that has some pairs (written, next state)."""
    if phase < 0:
        return [following for written, following in pairs]
    return pairs[0] if phase > 0 else list(pairs)


def machine_of(table, read, write, delay):
    """Return the machine that does what a table says."""
    rules = [(phase, [(written, number) for digit, written, number in moves]) for phase, points, moves in table]
    return Machine(read, write, delay, states_of(rules))


def first_bad_row(begin, follow, is_bad, digits, limit):
    """Return the shortest and then least row that leads to something bad, or None if there is none.

    The search begins at what the empty row leads to; from there each digit leads to what `follow` returns.
    """
    if is_bad(begin):
        return ()
    rows = {begin: ()}
    queue = [begin]
    at = 0
    while at < len(queue):
        present = queue[at]
        for digit in digits:
            following = follow(present, digit)
            if is_bad(following):
                return (*rows[present], digit)
            if following not in rows:
                rows[following] = (*rows[present], digit)
                queue.append(following)
                if len(queue) > limit:
                    raise LimitReached(limit)
        at += 1
    return None


def judge(machine, function, *, limit=MAX_PAIRS):
    """Return None if a machine is right for a function, otherwise the first row behind which it is wrong."""
    read, write = machine.read_set(), machine.write_set()
    if not is_defined_on(function, read):
        raise Incompatible()
    state, written = machine.begin()

    def follow(pair, digit):
        following, row = machine.after(pair[0], digit)
        return following, points_after_row(points_after_read(pair[1], read, digit), write, row)

    begin = (state, points_after_row(function.corners, write, written))
    return first_bad_row(begin, follow, lambda pair: not are_safe(pair[1], write), read.digits, limit)


def points_after_row(points, write, row):
    """Return the points after writing a row."""
    rest = points
    for digit in row:
        rest = points_after_write(rest, write, digit)
    return rest


def find_unlike(one, other, *, limit=MAX_PAIRS):
    """Return None if two machines write equal numbers, otherwise the first row behind which they are unlike."""
    if one.read_set() != other.read_set():
        raise Incompatible()
    first, begun = one.begin()
    second, beside = other.begin()
    base = one.read_set().base

    def follow(told, digit):
        state, row = one.after(told[0], digit)
        another, along = other.after(told[1], digit)
        if one.delay() <= other.delay():
            ahead, gap = compared(base, told[3], told[2] + row, along)
        else:
            ahead, gap = compared(base, told[3], row, told[2] + along)
        return (state, another, ahead, gap)

    def is_bad(told):
        return not can_be_equal(told[3], one.write_set(), other.write_set())

    rest, difference = compared(base, 0, begun, beside)
    return first_bad_row((first, second, rest, difference), follow, is_bad, one.read_set().digits, limit)


def compared(base, gap, one, other):
    """Return the rest of the longer one of two rows, and the difference of the values up to the shorter one.

    The difference is multiplied by the power of the base that makes it an integer; before the rows it was the gap.
    """
    total = gap
    for left, right in zip(one, other):
        total = base * total + left - right
    common = min(len(one), len(other))
    return one[common:] + other[common:], total


def can_be_equal(gap, one, other):
    """Return whether two rows with a gap between their values can be continued to equal numbers by two sets."""
    distance = gap * (one.base - 1)
    return distance + one.digits[-1] >= other.digits[0] and distance + one.digits[0] <= other.digits[-1]


def compose(first, second):
    """Return the trimmed composition of two machines."""
    if first.write_set() != second.read_set():
        raise Incompatible()
    delay = first.delay() + second.delay()
    if abs(delay) > MAX_MACHINE_DELAY:
        raise LimitReached(MAX_MACHINE_DELAY)
    # Trimmed machines have the same composition, but fewer pairs of states.
    rules = trimmed_rules(composed_rules(trim(first), trim(second)))
    return Machine(first.read_set(), second.write_set(), delay, states_of(rules))


def composed_rules(first, second):
    """Return the rules of the composition of two machines, with one state for each pair of states that occurs."""
    pairs = [first_pair(first, second)]
    numbers = {pairs[0]: 0}
    rules = []
    while len(rules) < len(pairs):
        pair = pairs[len(rules)]
        phase = first.phase(pair[0]) + second.phase(pair[1])
        digits = (None,) if phase > 0 else first.read_set().digits
        moves = []
        for digit in digits:
            written, following = composed_move(first, second, pair, digit)
            if following not in numbers:
                numbers[following] = len(pairs)
                pairs.append(following)
            moves.append((written, numbers[following]))
        rules.append((phase, tuple(moves)))
    return rules


def first_pair(first, second):
    """Return the states in which the composition begins.

    Where the second machine does not write yet, it has read all that the first one writes before it reads.
    """
    one, other = 0, 0
    while first.phase(one) > 0 and second.phase(other) < 0:
        passed, one = first.move(one, None)
        written, other = second.move(other, passed)
    return one, other


def composed_move(first, second, pair, digit):
    """Return what the composition writes for a digit, or for None if it only writes, and the next pair of states."""
    one, other = pair
    phase = first.phase(one) + second.phase(other)
    if phase > 0 and second.phase(other) > 0:
        written, following = second.move(other, None)
        return written, (one, following)
    passed, behind = first.move(one, digit)
    if passed is not None:
        written, following = second.move(other, passed)
    elif phase == 0:
        # The first machine is silent; the second one still has to write what comes before its first digit.
        written, following = second.move(other, None)
    else:
        written, following = None, other
    return written, (behind, following)


def trim(machine):
    """Return the trimmed machine."""
    rules = trimmed_rules(machine.rules)
    return Machine(machine.read_set(), machine.write_set(), machine.delay(), states_of(rules))


def trimmed_rules(rules):
    """Return the rules of the trimmed machine; state 0 must lead to all states if there are more than 400."""
    groups = groups_of(rules)
    kept = [0]
    numbers = {groups[0]: 0}
    trimmed = []
    while len(trimmed) < len(kept):
        phase, pairs = rules[kept[len(trimmed)]]
        moves = []
        for written, following in pairs:
            if groups[following] not in numbers:
                numbers[groups[following]] = len(kept)
                kept.append(following)
            moves.append((written, numbers[groups[following]]))
        trimmed.append((phase, tuple(moves)))
    return trimmed


def groups_of(rules):
    """Return for each state the number of its group: states with equal numbers write the same for every input."""
    groups = numbered([(phase, tuple([written for written, following in pairs])) for phase, pairs in rules])
    many = 0
    # Groups are divided as long as their states lead to different groups, so their number never falls.
    while many < len(set(groups)):
        many = len(set(groups))
        if many > MAX_MACHINE_STATES:
            raise LimitReached(MAX_MACHINE_STATES)
        groups = numbered([(groups[at], tuple([groups[following] for written, following in pairs]))
                           for at, (phase, pairs) in enumerate(rules)])
    return groups


def numbered(keys):
    """Return the list of the numbers of some keys, in which equal keys have equal numbers, in order of appearance."""
    numbers = {}
    for key in keys:
        if key not in numbers:
            numbers[key] = len(numbers)
    return [numbers[key] for key in keys]

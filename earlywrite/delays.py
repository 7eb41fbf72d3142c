"""Delays: with which delay a function can be written, with a table or a refutation that shows it.

A state is a pair (phase, points), where the tuple of points stands for the remaining function. Each state makes
demands: a demand is a pair (digit, answers), where the digit is read, or is None if the phase is above 0. The
answers are a list of pairs (written, number): what can be written then, or None, and the number of the next state.
"""

from earlywrite.errors import Incompatible, InvalidDelay, LimitReached, NotRedundant, OutOfRange
from earlywrite.lines import MAX_PIECES, height_on, is_ascending, normal_form
from earlywrite.remaining import are_safe, is_defined_on, is_safe, points_after_read, points_after_write, safe_digits

MIN_DELAY = -6
MAX_DELAY = 9
MAX_STATES = 400


def check_task(function, read, write):
    """Raise the first task error, if there is one."""
    if read.base != write.base or not is_defined_on(function, read):
        raise Incompatible()
    if not is_safe(function, write):
        raise OutOfRange()
    if not write.is_redundant():
        raise NotRedundant()


def check_delay(delay):
    """Raise an error if a delay is too small or too great."""
    if not MIN_DELAY <= delay <= MAX_DELAY:
        raise InvalidDelay()


def next_phase(phase):
    """Return the phase that follows a phase."""
    if phase < 0:
        return phase + 1
    return max(0, phase - 1)


def read_digits(phase, read):
    """Return the digits one of which is read in a phase, or only None."""
    return (None,) if phase > 0 else read.digits


def written_digits(phase, write):
    """Return the digits one of which may be written in a phase, or only None."""
    return (None,) if phase < 0 else write.digits


def points_read(points, read, digit):
    """Return the points after reading a digit, or nothing if it is None."""
    return points if digit is None else points_after_read(points, read, digit)


def points_written(points, write, digit):
    """Return the points after writing a digit, or nothing if it is None."""
    return points if digit is None else points_after_write(points, write, digit)


def state_behind(state, read, write, digit, written):
    """Return the state that follows if a digit is read and a digit is written; either may be None."""
    phase, points = state
    return next_phase(phase), points_written(points_read(points, read, digit), write, written)


def count_states(function, read, write, delay, *, limit=MAX_STATES):
    """Return the number of states of a task with a delay."""
    check_task(function, read, write)
    check_delay(delay)
    states, demands = explore(function, read, write, delay, limit)
    return len(states)


def explore(function, read, write, delay, limit):
    """Return the list of the states of a task with a delay, and the list of the lists of their demands."""
    states = [(-delay, function.corners)]
    numbers = {states[0]: 0}
    demands = []
    while len(demands) < len(states):
        found = []
        followers = followers_of(states[len(demands)], read, write)
        for digit, following in followers:
            answers = []
            for written, state in following:
                if state not in numbers:
                    numbers[state] = len(states)
                    states.append(state)
                answers.append((written, numbers[state]))
            found.append((digit, answers))
        demands.append(found)
        if len(states) > limit:
            raise LimitReached(limit)
    return states, demands


def followers_of(state, read, write):
    """Return the demands of a safe state, with the next states themselves instead of their numbers."""
    phase, points = state
    found = []
    for digit in read_digits(phase, read):
        rest = points_read(points, read, digit)
        choices = [None] if phase < 0 else safe_digits(rest, write)
        following = [(written, (next_phase(phase), points_written(rest, write, written))) for written in choices]
        found.append((digit, following))
    return found


def lost_states(demands):
    """Return a dict of the states from which no writer can go on forever, in the order in which this is known.

    The value of a state is the index of a demand all of whose answers lead to states that stand before it.
    """
    hopes = [[len(answers) for digit, answers in wanted] for wanted in demands]
    users = users_of(demands)
    lost = {}
    pending = []
    for number in range(len(demands)):
        if 0 in hopes[number]:
            lost[number] = hopes[number].index(0)
            pending.append(number)
    at = 0
    while at < len(pending):
        number = pending[at]
        for user, place in users[number]:
            hopes[user][place] -= 1
            if hopes[user][place] == 0 and user not in lost:
                lost[user] = place
                pending.append(user)
        at += 1
    return lost


def users_of(demands):
    """Return for each state the list of the pairs (state, index of a demand) that have it as an answer."""
    users = [[] for wanted in demands]
    for number, wanted in enumerate(demands):
        for place, (digit, answers) in enumerate(wanted):
            for written, following in answers:
                users[following].append((number, place))
    return users


def decide(function, read, write, delay, *, limit=MAX_STATES):
    """Return whether a delay is possible, with a table or a refutation that shows it."""
    check_task(function, read, write)
    check_delay(delay)
    return decided(function, read, write, delay, limit)


def decided(function, read, write, delay, limit):
    """Return what `decide` returns, for a task and a delay without errors."""
    states, demands = explore(function, read, write, delay, limit)
    lost = lost_states(demands)
    if 0 in lost:
        return ("impossible", refutation_of(states, demands, lost, read, write))
    return ("possible", table_of(states, demands, lost))


def table_of(states, demands, lost):
    """Return a table that contains the states that are needed if each demand gets the first answer that is good."""
    kept = [0]
    numbers = {0: 0}
    table = []
    while len(table) < len(kept):
        number = kept[len(table)]
        phase, points = states[number]
        moves = []
        for digit, answers in demands[number]:
            good = [(written, following) for written, following in answers if following not in lost]
            written, following = good[0]
            if following not in numbers:
                numbers[following] = len(kept)
                kept.append(following)
            moves.append((digit, written, numbers[following]))
        table.append((phase, list(points), moves))
    return table


def refutation_of(states, demands, lost, read, write):
    """Return a refutation that contains those of the lost states that are needed for the first state."""
    needed = needed_states(demands, lost)
    numbers = {}
    refutation = []
    for number in lost:
        if number in needed:
            phase, points = states[number]
            digit, answers = demands[number][lost[number]]
            places = {written: numbers[following] for written, following in answers}
            rest = points_read(points, read, digit)
            outcomes = [("row", places[written]) if written in places else ("out", place_outside(rest, write, written))
                        for written in written_digits(phase, write)]
            numbers[number] = len(refutation)
            refutation.append((phase, list(points), digit, outcomes))
    return refutation


def needed_states(demands, lost):
    """Return a dict whose keys are the first state and all lost states that its refutation leads to."""
    needed = {0: True}
    pending = [0]
    while pending:
        number = pending.pop()
        digit, answers = demands[number][lost[number]]
        for written, following in answers:
            if following not in needed:
                needed[following] = True
                pending.append(following)
    return needed


def place_outside(points, write, written):
    """Return the x of a point that is not safe after writing a digit; there is one."""
    behind = points_after_write(points, write, written)
    return [x for x, y in behind if not write.has_number(y)][0]


def least_delay(function, read, write, *, first=MIN_DELAY, last=MAX_DELAY, limit=MAX_STATES):
    """Return the least possible delay, a table for it and a refutation of the delay before it."""
    check_task(function, read, write)
    if not MIN_DELAY <= first <= last <= MAX_DELAY:
        raise InvalidDelay()
    refutation = None
    for delay in range(first, last + 1):
        answer, shown = decided(function, read, write, delay, limit)
        if answer == "possible":
            return (delay, shown, refutation)
        refutation = shown
    raise LimitReached(last)


def check_table(function, read, write, delay, table):
    """Return whether a list is a table for a delay."""
    check_task(function, read, write)
    check_delay(delay)
    states = [(phase, tuple(points)) for phase, points, moves in table]
    if not states or states[0] != (-delay, function.corners):
        return False
    return all([is_table_row(state, row[2], states, read, write) for state, row in zip(states, table)])


def is_table_row(state, moves, states, read, write):
    """Return whether the row of a state is right in a table with some states."""
    phase, points = state
    if not are_points_on(points, read) or not are_safe(points, write):
        return False
    if [digit for digit, written, number in moves] != list(read_digits(phase, read)):
        return False
    return all([is_table_move(state, move, states, read, write) for move in moves])


def is_table_move(state, move, states, read, write):
    """Return whether a move leads to the state that its digits lead to; what it reads is right."""
    digit, written, number = move
    if written not in written_digits(state[0], write) or not is_index(number, len(states)):
        return False
    return states[number] == state_behind(state, read, write, digit, written)


def check_refutation(function, read, write, delay, refutation):
    """Return whether a list is a refutation of a delay."""
    check_task(function, read, write)
    check_delay(delay)
    states = [(phase, tuple(points)) for phase, points, digit, outcomes in refutation]
    if not states or states[-1] != (-delay, function.corners):
        return False
    return all([is_refutation_row(row, states[:at + 1], read, write) for at, row in enumerate(refutation)])


def is_refutation_row(row, states, read, write):
    """Return whether a row is right in a refutation; the last one of the states is its own."""
    phase, points, digit, outcomes = row
    if not are_points_on(points, read) or digit not in read_digits(phase, read):
        return False
    choices = written_digits(phase, write)
    if len(outcomes) != len(choices):
        return False
    following = [state_behind(states[-1], read, write, digit, written) for written in choices]
    return all([is_outcome(outcome, state, states[:-1], read, write) for outcome, state in zip(outcomes, following)])


def is_outcome(outcome, state, earlier, read, write):
    """Return whether an outcome is right for a state, behind some earlier states."""
    kind, shown = outcome
    if kind == "row":
        return is_index(shown, len(earlier)) and earlier[shown] == state
    return kind == "out" and read.has_number(shown) and not write.has_number(height_on(state[1], shown))


def is_index(number, count):
    """Return whether a number, which may be None, is one of the indexes of so many rows."""
    return number is not None and 0 <= number < count


def are_points_on(points, read):
    """Return whether points are those of a line function, in normal form, on the interval of a set."""
    if not 2 <= len(points) <= MAX_PIECES + 1 or not is_ascending([x for x, y in points]):
        return False
    return normal_form(points) == tuple(points) and points[0][0] == read.low() and points[-1][0] == read.high()

"""Runs: machines that read digit by digit, and can take digits back."""

from earlywrite.digits import MAX_ROW
from earlywrite.errors import EmptyHistory, InvalidRow, LimitReached
from earlywrite.rationals import fraction


class Run:
    """A run, kept as its machine, the digits that were read and written, and the states in which digits are read."""

    def __init__(self, machine):
        state, row = machine.begin()
        self.device = machine
        self.fed = []
        self.output = list(row)
        self.trail = [state]

    def __len__(self):
        return len(self.fed)

    def __eq__(self, other):
        return isinstance(other, Run) and self.device == other.device and self.fed == other.fed

    def __repr__(self):
        return f"Run({len(self.fed)} read, {len(self.output)} written)"

    def read(self):
        """Return the row that was read so far."""
        return tuple(self.fed)

    def written(self):
        """Return the row that was written so far."""
        return tuple(self.output)

    def feed(self, digit):
        """Read a digit and return the row of what is written then."""
        if digit not in self.device.read_set().digits:
            raise InvalidRow()
        if len(self.fed) >= MAX_ROW:
            raise LimitReached(MAX_ROW)
        state, row = self.device.after(self.trail[-1], digit)
        self.fed.append(digit)
        self.output.extend(row)
        self.trail.append(state)
        return row

    def undo(self):
        """Take back the last digit that was read, with what was written for it."""
        if not self.fed:
            raise EmptyHistory()
        self.fed.pop()
        self.trail.pop()
        # In the state before, a digit was written for the one that was read unless the phase was below 0.
        if self.device.phase(self.trail[-1]) == 0:
            self.output.pop()

    def bounds(self):
        """Return the least and the greatest number that the written row can be continued to."""
        write = self.device.write_set()
        # What is written may be longer than a row whose value the set returns.
        total, scale = 0, 1
        for digit in self.output:
            total, scale = total * write.base + digit, scale * write.base
        steps = write.base - 1
        least = fraction(total * steps + write.digits[0], scale * steps)
        greatest = fraction(total * steps + write.digits[-1], scale * steps)
        return (least, greatest)

    def clone(self):
        """Return an independent run with the same machine and rows."""
        twin = Run(self.device)
        twin.fed = list(self.fed)
        twin.output = list(self.output)
        twin.trail = list(self.trail)
        return twin

"""Digit sets, whose digits may be negative and more than the base needs."""

from earlywrite.errors import Incompatible, InvalidBase, InvalidDigits, InvalidRow, LimitReached, OutOfRange
from earlywrite.rationals import fraction, is_within

MIN_BASE = 2
MAX_BASE = 10
MIN_DIGITS = 2
MAX_DIGITS = 24
MAX_DIGIT = 99
MAX_ROW = 200
MAX_SETS = 3


class DigitSet:
    """A base and the ascending tuple of the digits."""

    def __init__(self, base, digits):
        if not MIN_BASE <= base <= MAX_BASE:
            raise InvalidBase()
        ascending = tuple(sorted(digits))
        if not are_digits(base, ascending):
            raise InvalidDigits()
        self.base = base
        self.digits = ascending

    def __len__(self):
        return len(self.digits)

    def __eq__(self, other):
        return isinstance(other, DigitSet) and self.base == other.base and self.digits == other.digits

    def __repr__(self):
        return f"DigitSet({self.base}, {len(self.digits)} digits)"

    def low(self):
        """Return the lower end of the interval."""
        return fraction(self.digits[0], self.base - 1)

    def high(self):
        """Return the upper end of the interval."""
        return fraction(self.digits[-1], self.base - 1)

    def is_redundant(self):
        """Return whether the set is redundant."""
        return widest_gap(self.digits) * (self.base - 1) < spread(self.digits)

    def value(self, row):
        """Return the value of a row."""
        if not self.has_row(row):
            raise InvalidRow()
        total, scale = 0, 1
        for digit in row:
            total, scale = total * self.base + digit, scale * self.base
        return fraction(total, scale)

    def row_of(self, number, count):
        """Return the first digits of a number, each of them the least one that is possible."""
        if not 0 <= count <= MAX_ROW or not self.has_number(number):
            raise OutOfRange()
        row = []
        rest = number
        while len(row) < count:
            digit = self.least_first_digit(rest)
            row.append(digit)
            rest = self.rest_behind(rest, digit)
        return tuple(row)

    def has_row(self, row):
        """Return whether a tuple is a row of the set."""
        return len(row) <= MAX_ROW and all([digit in self.digits for digit in row])

    def has_number(self, number):
        """Return whether a number lies in the interval."""
        return is_within(number, self.low(), self.high())

    def rest_behind(self, number, digit):
        """Return the number of the digits that follow the first digit of a number."""
        numerator, denominator = number
        return fraction(self.base * numerator - digit * denominator, denominator)

    def least_first_digit(self, number):
        """Return the least digit with which a number of the interval can begin."""
        possible = [digit for digit in self.digits if self.has_number(self.rest_behind(number, digit))]
        return possible[0]


def are_digits(base, ascending):
    """Return whether ascending integers are the digits of a set with a base."""
    if not MIN_DIGITS <= len(ascending) <= MAX_DIGITS or len(set(ascending)) != len(ascending):
        return False
    if ascending[0] < -MAX_DIGIT or ascending[-1] > MAX_DIGIT:
        return False
    return widest_gap(ascending) * (base - 1) <= spread(ascending)


def widest_gap(ascending):
    """Return the greatest difference of neighbouring integers."""
    return max([right - left for left, right in zip(ascending, ascending[1:])])


def spread(ascending):
    """Return the difference of the greatest and the least integer."""
    return ascending[-1] - ascending[0]


def combined(sets, factors):
    """Return the digit set of all sums of factor * digit, with one digit of each set."""
    if not are_combinable(sets, factors):
        raise Incompatible()
    sums = all_sums(sets, factors)
    if len(sums) > MAX_DIGITS:
        raise LimitReached(MAX_DIGITS)
    return DigitSet(sets[0].base, sums)


def are_combinable(sets, factors):
    """Return whether sets and factors can be combined, however many digits this gives."""
    if not 1 <= len(sets) <= MAX_SETS or len(factors) != len(sets) or 0 in factors:
        return False
    return all([part.base == sets[0].base for part in sets])


def all_sums(sets, factors):
    """Return the ascending list of all sums of factor * digit, without duplicates."""
    sums = [0]
    for part, factor in zip(sets, factors):
        multiples = [factor * digit for digit in part.digits]
        sums = sorted({total + multiple for total in sums for multiple in multiples})
    return sums

"""Remaining functions: what is left of a function after some digits were read and some were written.

Behind the functions for line functions stand the same ones for tuples of points in normal form. Reading and writing
lead from one normal form to another, so that those who take many steps need not look for it again.
"""

from earlywrite.errors import Incompatible, InvalidRow
from earlywrite.lines import LineFunction, cut_points
from earlywrite.rationals import difference, greater_of, is_within, product, smaller_of


def after_read(function, read, digit):
    """Return the remaining function after reading a digit."""
    if not is_defined_on(function, read):
        raise Incompatible()
    if digit not in read.digits:
        raise InvalidRow()
    return LineFunction(points_after_read(function.corners, read, digit))


def after_write(function, write, digit):
    """Return the remaining function after writing a digit."""
    if digit not in write.digits:
        raise InvalidRow()
    return LineFunction(points_after_write(function.corners, write, digit))


def is_safe(function, write):
    """Return whether all values lie in the interval of the writing set."""
    return are_safe(function.corners, write)


def is_defined_on(function, read):
    """Return whether a line function is defined on exactly the interval of a digit set."""
    return function.low() == read.low() and function.high() == read.high()


def points_after_read(points, read, digit):
    """Return the points after reading a digit; the points reach over the interval of the reading set."""
    # What follows the digit in x is the new argument.
    stretched = [(read.rest_behind(x, digit), y) for x, y in points]
    return cut_points(stretched, points[0][0], points[-1][0])


def points_after_write(points, write, digit):
    """Return the points after writing a digit."""
    return tuple([(x, write.rest_behind(y, digit)) for x, y in points])


def are_safe(points, write):
    """Return whether the y of all points lie in the interval of the writing set."""
    low, high = write.low(), write.high()
    return all([is_within(y, low, high) for x, y in points])


def safe_digits(points, write):
    """Return the ascending list of the digits that can be written such that the remaining function is safe."""
    least = greatest = points[0][1]
    for x, y in points:
        least, greatest = smaller_of(least, y), greater_of(greatest, y)
    first = difference(product((write.base, 1), greatest), write.high())
    last = difference(product((write.base, 1), least), write.low())
    return [digit for digit in write.digits if is_within((digit, 1), first, last)]

"""Line functions: continuous functions that are made of finitely many line pieces.

A point is a pair (x, y) of fractions.
"""

from earlywrite.errors import Incompatible, InvalidPoints, LimitReached, OutOfRange
from earlywrite.rationals import difference, greater_of, is_between, is_less, is_within
from earlywrite.rationals import product, quotient, smaller_of, sum_of

MIN_POINTS = 2
MAX_PIECES = 12


class LineFunction:
    """A line function, kept as the tuple of the points of its normal form."""

    def __init__(self, points):
        if len(points) < MIN_POINTS or not is_ascending([x for x, y in points]):
            raise InvalidPoints()
        corners = normal_form(points)
        if len(corners) - 1 > MAX_PIECES:
            raise LimitReached(MAX_PIECES)
        self.corners = corners

    def __len__(self):
        # One piece ends at each point but the first one.
        return len(self.corners[1:])

    def __eq__(self, other):
        return isinstance(other, LineFunction) and self.corners == other.corners

    def __repr__(self):
        return f"LineFunction({len(self.corners) - 1} pieces)"

    def points(self):
        """Return the list of the points of the normal form."""
        return list(self.corners)

    def low(self):
        """Return the lower end of the interval."""
        return self.corners[0][0]

    def high(self):
        """Return the upper end of the interval."""
        return self.corners[-1][0]

    def least(self):
        """Return the least value."""
        found = self.corners[0][1]
        for x, y in self.corners:
            found = smaller_of(found, y)
        return found

    def greatest(self):
        """Return the greatest value."""
        found = self.corners[0][1]
        for x, y in self.corners:
            found = greater_of(found, y)
        return found

    def value(self, number):
        """Return the value at a number."""
        if not is_within(number, self.low(), self.high()):
            raise OutOfRange()
        return height_on(self.corners, number)


def is_ascending(numbers):
    """Return whether each fraction is less than the next one."""
    return all([is_less(left, right) for left, right in zip(numbers, numbers[1:])])


def normal_form(points):
    """Return the tuple of the points at which the slope changes, and of both ends."""
    kept = [points[0]]
    for at in range(1, len(points) - 1):
        if slope_of(points[at - 1], points[at]) != slope_of(points[at], points[at + 1]):
            kept.append(points[at])
    kept.append(points[-1])
    return tuple(kept)


def slope_of(left, right):
    """Return the slope of the line through two points."""
    return quotient(difference(right[1], left[1]), difference(right[0], left[0]))


def height_at(left, right, x):
    """Return y at x on the line through two points."""
    return sum_of(left[1], product(slope_of(left, right), difference(x, left[0])))


def height_on(points, x):
    """Return y at x on the line through all of the points; x is not outside of them."""
    at = 1
    while is_less(points[at][0], x):
        at += 1
    return height_at(points[at - 1], points[at], x)


def cut_points(points, low, high):
    """Return the tuple of the points of the line through some points, from low to high only."""
    inner = [(x, y) for x, y in points if is_between(x, low, high)]
    return ((low, height_on(points, low)), *inner, (high, height_on(points, high)))


def straight(slope, offset, low, high):
    """Return the line function slope * x + offset on an interval."""
    return LineFunction([(x, sum_of(product(slope, x), offset)) for x in (low, high)])


def add_lines(one, other):
    """Return the sum of two line functions."""
    return LineFunction([(x, sum_of(y, z)) for x, y, z in values_of_both(one, other)])


def max_lines(one, other):
    """Return the greater value of two line functions at every number."""
    rows = with_crossings(values_of_both(one, other))
    return LineFunction([(x, greater_of(y, z)) for x, y, z in rows])


def min_lines(one, other):
    """Return the smaller value of two line functions at every number."""
    rows = with_crossings(values_of_both(one, other))
    return LineFunction([(x, smaller_of(y, z)) for x, y, z in rows])


def values_of_both(one, other):
    """Return the list of (x, y, z) at the points of either function, y and z being the values of both."""
    if one.low() != other.low() or one.high() != other.high():
        raise Incompatible()
    numbers = merged([x for x, y in one.points()], [x for x, y in other.points()])
    return [(x, one.value(x), other.value(x)) for x in numbers]


def merged(one, other):
    """Return the ascending list of the fractions of two ascending lists, without duplicates."""
    numbers = []
    at, beside = 0, 0
    while at < len(one) and beside < len(other):
        if is_less(one[at], other[beside]):
            numbers.append(one[at])
            at += 1
        else:
            if one[at] == other[beside]:
                at += 1
            numbers.append(other[beside])
            beside += 1
    return numbers + one[at:] + other[beside:]


def with_crossings(rows):
    """Return rows (x, y, z) together with those between them at which the lines y and z cross."""
    complete = [rows[0]]
    for left, right in zip(rows, rows[1:]):
        complete.extend(crossing(left, right))
        complete.append(right)
    return complete


def crossing(left, right):
    """Return the list of the row strictly between two rows (x, y, z) at which y = z, if there is one."""
    before = difference(left[1], left[2])
    behind = difference(right[1], right[2])
    if before[0] * behind[0] >= 0:
        return []
    x = height_at((before, left[0]), (behind, right[0]), (0, 1))
    y = height_at((left[0], left[1]), (right[0], right[1]), x)
    return [(x, y, y)]


def scale_line(function, factor):
    """Return a line function times a fraction."""
    return LineFunction([(x, product(factor, y)) for x, y in function.points()])


def abs_line(function):
    """Return the absolute value of a line function."""
    return max_lines(function, scale_line(function, (-1, 1)))


def restrict_line(function, low, high):
    """Return a line function on a smaller interval."""
    if not is_less(low, high) or is_less(low, function.low()) or is_less(function.high(), high):
        raise OutOfRange()
    return LineFunction(cut_points(function.corners, low, high))


def compose_lines(outer, inner):
    """Return the line function outer(inner(x)) on the interval of the inner one."""
    if is_less(inner.least(), outer.low()) or is_less(outer.high(), inner.greatest()):
        raise OutOfRange()
    levels = [x for x, y in outer.points()]
    corners = inner.points()
    numbers = [inner.low()]
    for left, right in zip(corners, corners[1:]):
        numbers.extend(numbers_at_levels(left, right, levels))
        numbers.append(right[0])
    return LineFunction([(x, outer.value(inner.value(x))) for x in numbers])


def numbers_at_levels(left, right, levels):
    """Return the ascending x strictly between two points at which their line has one of the ascending levels."""
    if is_less(left[1], right[1]):
        passed = [y for y in levels if is_between(y, left[1], right[1])]
    else:
        passed = [y for y in levels[::-1] if is_between(y, right[1], left[1])]
    return [height_at((left[1], left[0]), (right[1], right[0]), y) for y in passed]

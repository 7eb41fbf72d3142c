"""What several test files use."""

from fractions import Fraction

from earlywrite.digits import DigitSet
from earlywrite.lines import LineFunction

BINARY = DigitSet(2, (-1, 0, 1))


def pair(number):
    """The fraction of the package for a number of Python."""
    number = Fraction(number)
    return (number.numerator, number.denominator)


def pairs(numbers):
    return [pair(number) for number in numbers]


def points(rows):
    """Points of the package from pairs of numbers."""
    return [(pair(x), pair(y)) for x, y in rows]


def line(*rows):
    """The line function through points that are pairs of numbers."""
    return LineFunction(points(rows))


def plain(function):
    """The points of a line function as pairs of Python's own fractions."""
    return [(Fraction(*x), Fraction(*y)) for x, y in function.points()]


def value_at(rows, number):
    """The value at a number, interpolated from points with Python's own fractions."""
    for (x0, y0), (x1, y1) in zip(rows, rows[1:]):
        if x0 <= number <= x1:
            return y0 + (y1 - y0) * (number - x0) / (x1 - x0)
    raise AssertionError(f"{number} is outside of {rows}")


def zigzag(pieces, low=0, high=None, height=1):
    """A function with so many pieces of equal width, which begins at 0 and goes up first."""
    high = low + pieces if high is None else high
    width = Fraction(high - low, pieces)
    return line(*[(low + width * k, height * (k % 2)) for k in range(pieces + 1)])


def sample_numbers(function, parts=24):
    """The points of a function, and numbers between them."""
    xs = [x for x, y in plain(function)]
    low, high = xs[0], xs[-1]
    return sorted(set(xs) | {low + (high - low) * Fraction(k, parts) for k in range(parts + 1)})

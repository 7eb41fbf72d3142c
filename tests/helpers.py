"""What several test files use."""

import itertools
from fractions import Fraction

from earlywrite.digits import DigitSet
from earlywrite.errors import EarlyError, EmptyHistory, UndefinedName
from earlywrite.lines import LineFunction
from earlywrite.workshop import Workshop

BINARY = DigitSet(2, (-1, 0, 1))
WIDE = DigitSet(2, (-2, -1, 0, 1, 2))
BITS = DigitSet(2, (0, 1))


def pair(number):
    """The fraction of the package for a number of Python."""
    number = Fraction(number)
    return (number.numerator, number.denominator)


def pairs(numbers):
    return [pair(number) for number in numbers]


def points(rows):
    """Points of the package from pairs of numbers."""
    return [(pair(x), pair(y)) for x, y in rows]


def line(*rows):
    """The line function through points that are pairs of numbers."""
    return LineFunction(points(rows))


def plain(function):
    """The points of a line function as pairs of Python's own fractions."""
    return [(Fraction(*x), Fraction(*y)) for x, y in function.points()]


def value_at(rows, number):
    """The value at a number, interpolated from points with Python's own fractions."""
    for (x0, y0), (x1, y1) in zip(rows, rows[1:]):
        if x0 <= number <= x1:
            return y0 + (y1 - y0) * (number - x0) / (x1 - x0)
    raise AssertionError(f"{number} is outside of {rows}")


def zigzag(pieces, low=0, high=None, height=1):
    """A function with so many pieces of equal width, which begins at 0 and goes up first."""
    high = low + pieces if high is None else high
    width = Fraction(high - low, pieces)
    return line(*[(low + width * k, height * (k % 2)) for k in range(pieces + 1)])


def sample_numbers(function, parts=24):
    """The points of a function, and numbers between them."""
    xs = [x for x, y in plain(function)]
    low, high = xs[0], xs[-1]
    return sorted(set(xs) | {low + (high - low) * Fraction(k, parts) for k in range(parts + 1)})


def caught(call, *arguments, **keywords):
    """The error that a call raises, as a tuple of its tag and the values of its other attributes."""
    try:
        call(*arguments, **keywords)
    except (EarlyError, UndefinedName, EmptyHistory) as error:
        return (error.tag, *[value for name, value in vars(error).items() if name != "tag"])
    raise AssertionError(f"{call.__name__} raised nothing")


# The steps of [10], written a second time with Python's own fractions: points are tuples of pairs (x, y).


def own_ends(digit_set):
    return (Fraction(digit_set.digits[0], digit_set.base - 1), Fraction(digit_set.digits[-1], digit_set.base - 1))


def own_read(rows, read, digit):
    low, high = own_ends(read)
    inner = [read.base * x - digit for x, y in rows]
    places = [low] + [z for z in inner if low < z < high] + [high]
    return tuple([(z, value_at(rows, (digit + z) / read.base)) for z in places])


def own_write(rows, write, digit):
    return tuple([(x, write.base * y - digit) for x, y in rows])


def own_safe(rows, write):
    low, high = own_ends(write)
    return all(low <= y <= high for x, y in rows)


def own_points(rows):
    """Points of the package as those of the steps above."""
    return tuple([(Fraction(*x), Fraction(*y)) for x, y in rows])


def own_value(row, base):
    return sum((Fraction(digit, base ** (at + 1)) for at, digit in enumerate(row)), Fraction(0))


def shaped(read, write, *rows):
    """A function from the reading interval into the writing one: 0 and 1 stand for the ends of both."""
    low, high = own_ends(read)
    bottom, top = own_ends(write)
    return line(*[(low + (high - low) * Fraction(x), bottom + (top - bottom) * Fraction(y)) for x, y in rows])


def all_rows(digits, longest):
    """All rows of up to so many digits, the shortest and then least ones first."""
    for length in range(longest + 1):
        yield from itertools.product(digits, repeat=length)


# Definitions of all four kinds that need each other; `back` undoes what `up` does.
EXAMPLE = [
    ("bin", ("set", 2, (-1, 0, 1))), ("wide", ("set", 2, (-2, -1, 0, 1, 2))), ("bits", ("set", 2, (0, 1))),
    ("half", ("function", "1/2*x")), ("clip", ("function", "max(-1, min(1, x))")),
    ("near", ("function", "clip(2*half(x))")),
    ("slow", ("writer", "half", "bin", "bin")), ("up", ("writer", "near", "bin", "wide")),
    ("back", ("writer", "clip", "wide", "bin")),
    ("both", ("pipe", ("slow", "slow"))), ("trip", ("pipe", ("up", "back"))), ("long", ("pipe", ("both", "trip"))),
]


def shop_with(definitions=EXAMPLE):
    """A workshop in which pairs (name, item) were defined, one after the other."""
    shop = Workshop()
    for name, item in definitions:
        shop.define(name, item)
    return shop


def told(shop):
    """All that a workshop tells of itself without computing anything."""
    return ([(name, shop.item(name)) for name in shop.names()], shop.history(), shop.cached(), shop.computations())

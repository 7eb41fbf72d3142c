"""Fractions: tuples (numerator, denominator) in lowest terms with a positive denominator."""

from earlywrite.errors import OutOfRange


def fraction(numerator, denominator=1):
    """Return the fraction of two integers."""
    if denominator == 0:
        raise OutOfRange()
    divisor = common_divisor(abs(numerator), abs(denominator))
    if denominator < 0:
        divisor = -divisor
    return (numerator // divisor, denominator // divisor)


def common_divisor(one, other):
    """Return the greatest common divisor of two integers that are not negative."""
    while other != 0:
        one, other = other, one % other
    return one


def fraction_text(value):
    """Return the text of a fraction."""
    numerator, denominator = value
    if denominator == 1:
        return f"{numerator}"
    return f"{numerator}/{denominator}"


def sum_of(one, other):
    """Return one + other."""
    return fraction(one[0] * other[1] + other[0] * one[1], one[1] * other[1])


def difference(one, other):
    """Return one - other."""
    return fraction(one[0] * other[1] - other[0] * one[1], one[1] * other[1])


def product(one, other):
    """Return one * other."""
    return fraction(one[0] * other[0], one[1] * other[1])


def quotient(one, other):
    """Return one divided by other, which is not zero."""
    return fraction(one[0] * other[1], one[1] * other[0])


def is_less(one, other):
    """Return whether one is less than other."""
    return one[0] * other[1] < other[0] * one[1]


def is_within(number, low, high):
    """Return whether a number lies in the interval from low to high, its ends included."""
    return not is_less(number, low) and not is_less(high, number)


def is_between(number, low, high):
    """Return whether a number lies in the interval from low to high, its ends excluded."""
    return is_less(low, number) and is_less(number, high)


def smaller_of(one, other):
    """Return the smaller one of two fractions."""
    return other if is_less(other, one) else one


def greater_of(one, other):
    """Return the greater one of two fractions."""
    return other if is_less(one, other) else one

"""Promises [4] and [5]: digit sets, their rows and intervals, and combined sets."""

import itertools
import unittest
from fractions import Fraction

from earlywrite.digits import MAX_DIGIT, MAX_DIGITS, MAX_ROW, DigitSet, combined
from earlywrite.errors import Incompatible, InvalidBase, InvalidDigits, InvalidRow, LimitReached, OutOfRange
from helpers import BINARY, pair

TEN = DigitSet(10, list(range(10)))
SETS = [BINARY, TEN, DigitSet(2, (0, 1)), DigitSet(3, (-2, -1, 0, 1, 2)), DigitSet(2, (5, 7, 9)),
        DigitSet(3, (0, 1, 2, 4)), DigitSet(4, (-99, -33, 33, 99)), DigitSet(10, tuple(range(-6, 7))),
        DigitSet(7, tuple(range(-30, -6)))]


def row_by_search(digit_set, number, count):
    """The least digits of a number, from the definition and with Python's own fractions."""
    low = Fraction(min(digit_set.digits), digit_set.base - 1)
    high = Fraction(max(digit_set.digits), digit_set.base - 1)
    row = []
    for _ in range(count):
        digit = min(d for d in digit_set.digits if low <= digit_set.base * number - d <= high)
        row.append(digit)
        number = digit_set.base * number - digit
    return tuple(row)


class ConstantsTest(unittest.TestCase):
    def test_constants(self):
        self.assertEqual((MAX_DIGITS, MAX_DIGIT, MAX_ROW), (24, 99, 200))


class DigitSetTest(unittest.TestCase):
    def test_example(self):
        self.assertEqual([BINARY.digits, len(BINARY), repr(BINARY)], [(-1, 0, 1), 3, "DigitSet(2, 3 digits)"])

    def test_example_with_a_gap(self):
        self.assertRaises(InvalidDigits, DigitSet, 3, (0, 1, 3))

    def test_attributes(self):
        self.assertEqual((TEN.base, TEN.digits), (10, tuple(range(10))))
        self.assertEqual((len(TEN), repr(TEN)), (10, "DigitSet(10, 10 digits)"))
        self.assertIs(type(TEN.digits), tuple)

    def test_digits_in_any_order(self):
        for order in itertools.permutations((-2, -1, 0, 2)):
            self.assertEqual(DigitSet(2, list(order)).digits, (-2, -1, 0, 2))

    def test_every_base(self):
        for base in range(2, 11):
            self.assertEqual(DigitSet(base, tuple(range(base))).base, base)

    def test_wrong_bases(self):
        for base in (1, 0, -1, -2, -10, 11, 12, 10 ** 29):
            self.assertRaises(InvalidBase, DigitSet, base, (0, 1))

    def test_invalid_base_comes_first(self):
        for digits in ([], [1], [0, 0], [0, 100], [0, 1, 50], list(range(25))):
            self.assertRaises(InvalidBase, DigitSet, 1, digits)
            self.assertRaises(InvalidBase, DigitSet, 11, digits)
            self.assertRaises(InvalidDigits, DigitSet, 10, digits)

    def test_number_of_digits(self):
        self.assertRaises(InvalidDigits, DigitSet, 2, [])
        self.assertRaises(InvalidDigits, DigitSet, 2, [0])
        self.assertEqual(len(DigitSet(2, [0, 1])), 2)
        self.assertEqual(len(DigitSet(2, tuple(range(24)))), 24)
        self.assertRaises(InvalidDigits, DigitSet, 2, list(range(25)))
        self.assertRaises(InvalidDigits, DigitSet, 2, list(range(-50, 50)))

    def test_duplicates(self):
        for digits in ([1, 1], [0, 1, 1], [-1, 0, 1, -1], [0, 1, 0]):
            self.assertRaises(InvalidDigits, DigitSet, 2, digits)

    def test_duplicates_count_although_few_are_different(self):
        self.assertRaises(InvalidDigits, DigitSet, 2, [0, 1] * 13)

    def test_greatest_and_least_digits(self):
        self.assertEqual(DigitSet(2, (-99, 0, 99)).digits, (-99, 0, 99))
        self.assertEqual(DigitSet(2, (98, 99)).digits, (98, 99))
        self.assertEqual(DigitSet(2, (-99, -98)).digits, (-99, -98))
        for digits in ((-100, 0, 99), (-99, 0, 100), (99, 100), (-100, -99), (0, 10 ** 29), (-(10 ** 29), 0)):
            self.assertRaises(InvalidDigits, DigitSet, 2, digits)

    def test_gaps_that_are_just_allowed(self):
        for base, digits in [(3, (0, 1, 2)), (3, (0, 1, 2, 4)), (3, (0, 2, 3, 4)), (4, (-3, -1, 1, 3)),
                             (4, (0, 2, 3, 4, 6)), (2, (-99, 99)), (10, tuple(range(10)))]:
            self.assertEqual(DigitSet(base, digits).digits, tuple(digits))

    def test_gaps_that_are_just_not_allowed(self):
        for base, digits in [(3, (0, 1)), (3, (0, 2, 3)), (3, (0, 1, 2, 5)), (3, (0, 3, 4, 5)), (4, (0, 1, 2)),
                             (4, (0, 2, 3, 5)), (10, tuple(range(9))), (10, (0, 1, 2, 3, 4, 6, 7, 8, 9))]:
            self.assertRaises(InvalidDigits, DigitSet, base, tuple(digits))

    def test_equality(self):
        self.assertEqual(BINARY, DigitSet(2, [1, 0, -1]))
        self.assertFalse(BINARY != DigitSet(2, [1, 0, -1]))
        for other in (DigitSet(3, (-1, 0, 1)), DigitSet(2, (0, 1)), DigitSet(2, (-1, 0, 1, 2)), (-1, 0, 1),
                      [-1, 0, 1], (2, (-1, 0, 1)), 2, "DigitSet(2, 3 digits)", None):
            self.assertFalse(BINARY == other)
            self.assertTrue(BINARY != other)

    def test_keywords(self):
        self.assertEqual(DigitSet(digits=[1, 0, -1], base=2), BINARY)


class IntervalTest(unittest.TestCase):
    def test_example(self):
        self.assertEqual([TEN.low(), TEN.high()], [(0, 1), (1, 1)])

    def test_ends(self):
        for digit_set in SETS:
            self.assertEqual(digit_set.low(), pair(Fraction(digit_set.digits[0], digit_set.base - 1)))
            self.assertEqual(digit_set.high(), pair(Fraction(digit_set.digits[-1], digit_set.base - 1)))

    def test_ends_in_lowest_terms(self):
        digit_set = DigitSet(10, tuple(range(-6, 7)))
        self.assertEqual((digit_set.low(), digit_set.high()), ((-2, 3), (2, 3)))

    def test_example_of_redundancy(self):
        self.assertEqual([BINARY.is_redundant(), DigitSet(2, (0, 1)).is_redundant()], [True, False])

    def test_redundant_sets(self):
        for base, digits in [(3, (0, 1, 2, 3)), (3, (-2, -1, 0, 1, 2)), (10, tuple(range(11))), (2, (-99, 0, 99)),
                             (2, (0, 1, 50, 99)), (4, (0, 2, 4, 6, 7))]:
            self.assertIs(DigitSet(base, digits).is_redundant(), True)

    def test_sets_that_just_are_not_redundant(self):
        for base, digits in [(2, (0, 1)), (2, (-99, 99)), (3, (0, 1, 2)), (3, (0, 1, 2, 4)), (3, (0, 2, 3, 4)),
                             (10, tuple(range(10))), (4, (0, 2, 3, 4, 6)), (4, (-99, -33, 33, 99))]:
            self.assertIs(DigitSet(base, digits).is_redundant(), False)


class ValueTest(unittest.TestCase):
    def test_example(self):
        self.assertEqual(BINARY.value((1, -1)), (1, 4))

    def test_short_rows(self):
        self.assertEqual(BINARY.value(()), (0, 1))
        self.assertEqual([BINARY.value((digit,)) for digit in (-1, 0, 1)], [(-1, 2), (0, 1), (1, 2)])

    def test_all_rows_of_three_digits(self):
        for digit_set in SETS:
            for row in itertools.product(digit_set.digits[:4], repeat=3):
                value = sum(Fraction(digit, digit_set.base ** (k + 1)) for k, digit in enumerate(row))
                self.assertEqual(digit_set.value(row), pair(value))

    def test_longest_row(self):
        self.assertEqual(BINARY.value((1,) * 200), (2 ** 200 - 1, 2 ** 200))
        self.assertEqual(TEN.value((0,) * 199 + (7,)), (7, 10 ** 200))

    def test_row_that_is_too_long(self):
        self.assertRaises(InvalidRow, BINARY.value, (0,) * 201)
        self.assertRaises(InvalidRow, BINARY.value, (1,) * 300)

    def test_digits_that_are_not_in_the_set(self):
        for row in ((2,), (-2,), (0, 0, 5), (3, 0), (0,) * 199 + (2,), (10 ** 29,)):
            self.assertRaises(InvalidRow, BINARY.value, row)
        self.assertRaises(InvalidRow, DigitSet(2, (-1, 1, 3)).value, (1, 2))

    def test_keyword(self):
        self.assertEqual(BINARY.value(row=(1, -1)), (1, 4))


class RowOfTest(unittest.TestCase):
    def test_example(self):
        self.assertEqual(BINARY.row_of((1, 3), 4), (0, 1, 0, 1))

    def test_least_digits_of_many_numbers(self):
        for digit_set in SETS:
            low, high = Fraction(*digit_set.low()), Fraction(*digit_set.high())
            for k in range(31):
                number = low + (high - low) * Fraction(k, 30)
                row = digit_set.row_of(pair(number), 9)
                self.assertEqual(row, row_by_search(digit_set, number, 9))
                rest = (number - Fraction(*digit_set.value(row))) * digit_set.base ** 9
                self.assertTrue(low <= rest <= high)

    def test_least_digit_although_a_greater_one_is_possible(self):
        self.assertEqual(BINARY.row_of((0, 1), 3), (-1, 1, 1))
        self.assertEqual(TEN.row_of((1, 2), 3), (4, 9, 9))

    def test_ends_of_the_interval(self):
        for digit_set in SETS:
            self.assertEqual(digit_set.row_of(digit_set.low(), 5), (digit_set.digits[0],) * 5)
            self.assertEqual(digit_set.row_of(digit_set.high(), 5), (digit_set.digits[-1],) * 5)

    def test_outside_of_the_interval(self):
        for digit_set in SETS:
            for end, step in ((digit_set.low(), -1), (digit_set.high(), 1)):
                for size in (Fraction(1, 10 ** 11), 1, 10 ** 10):
                    number = pair(Fraction(*end) + step * size)
                    self.assertRaises(OutOfRange, digit_set.row_of, number, 3)
                    self.assertRaises(OutOfRange, digit_set.row_of, number, 0)

    def test_counts(self):
        self.assertRaises(OutOfRange, BINARY.row_of, (1, 3), -1)
        self.assertEqual(BINARY.row_of((1, 3), 0), ())
        self.assertEqual(BINARY.row_of((1, 3), 1), (0,))
        self.assertEqual(BINARY.row_of((1, 3), 200), (0, 1) * 100)
        self.assertRaises(OutOfRange, BINARY.row_of, (1, 3), 201)
        self.assertRaises(OutOfRange, BINARY.row_of, (2, 1), 201)

    def test_great_denominator(self):
        number = Fraction(123456789011, 999999999989)
        for digit_set in (BINARY, TEN):
            self.assertEqual(digit_set.row_of(pair(number), 200), row_by_search(digit_set, number, 200))

    def test_value_of_a_long_row(self):
        number = BINARY.value((1, -1, 0, 1) * 50)
        self.assertEqual(BINARY.row_of(number, 200), row_by_search(BINARY, Fraction(*number), 200))

    def test_keywords(self):
        self.assertEqual(BINARY.row_of(count=4, number=(1, 3)), (0, 1, 0, 1))


class CombinedTest(unittest.TestCase):
    def test_example(self):
        self.assertEqual(combined([BINARY, BINARY], [1, -1]).digits, (-2, -1, 0, 1, 2))

    def test_one_set(self):
        self.assertEqual(combined([BINARY], [1]), BINARY)
        self.assertEqual(combined([DigitSet(3, (0, 1, 2, 4))], [-3]), DigitSet(3, (-12, -6, -3, 0)))

    def test_two_and_three_sets(self):
        for sets, factors in [([BINARY, DigitSet(2, (0, 1))], [2, 3]), ([BINARY] * 3, [1, 2, 4]),
                              ([DigitSet(2, (0, 1)), DigitSet(2, (5, 7, 9)), BINARY], [-1, 1, -2])]:
            sums = {sum(f * d for f, d in zip(factors, row))
                    for row in itertools.product(*[digit_set.digits for digit_set in sets])}
            result = combined(sets, factors)
            self.assertEqual((result.base, result.digits), (2, tuple(sorted(sums))))

    def test_a_row_stands_for_the_sum_of_the_values(self):
        one, other = (1, 0, -1, 1), (0, 1, 1, -1)
        result = combined([BINARY, BINARY], [3, -2])
        value = 3 * Fraction(*BINARY.value(one)) - 2 * Fraction(*BINARY.value(other))
        self.assertEqual(result.value(tuple(3 * a - 2 * b for a, b in zip(one, other))), pair(value))

    def test_wrong_numbers_of_sets(self):
        self.assertRaises(Incompatible, combined, [], [])
        self.assertRaises(Incompatible, combined, [BINARY] * 4, [1] * 4)
        self.assertRaises(Incompatible, combined, [BINARY] * 1000, [1] * 1000)

    def test_wrong_numbers_of_factors(self):
        for sets, factors in [(1, 0), (1, 2), (2, 1), (3, 2), (3, 4), (0, 1), (4, 3)]:
            self.assertRaises(Incompatible, combined, [BINARY] * sets, [1] * factors)

    def test_different_bases(self):
        other = DigitSet(3, (-1, 0, 1))
        for sets in ([BINARY, other], [other, BINARY], [BINARY, BINARY, other], [BINARY, other, BINARY]):
            self.assertRaises(Incompatible, combined, sets, [1] * len(sets))

    def test_factor_zero(self):
        for factors in ([0], [0, 1], [1, 0], [1, 1, 0]):
            self.assertRaises(Incompatible, combined, [BINARY] * len(factors), factors)

    def test_exactly_24_and_25_sums(self):
        twelve, five = DigitSet(2, tuple(range(12))), DigitSet(2, tuple(range(5)))
        self.assertEqual(combined([twelve, DigitSet(2, (0, 1))], [1, 12]).digits, tuple(range(24)))
        with self.assertRaises(LimitReached) as caught:
            combined([five, five], [1, 5])
        self.assertEqual(caught.exception.limit, 24)

    def test_many_sums_before_a_set_is_left_out(self):
        full = DigitSet(2, tuple(range(24)))
        with self.assertRaises(LimitReached) as caught:
            combined([full] * 3, [1, 1000, 1000000])
        self.assertEqual(caught.exception.limit, 24)

    def test_sums_that_are_no_digits(self):
        self.assertEqual(combined([BINARY], [99]).digits, (-99, 0, 99))
        for sets, factors in [([BINARY], [100]), ([BINARY], [-100]), ([DigitSet(2, (98, 99)), BINARY], [1, 1]),
                              ([DigitSet(2, (-99, -98)), DigitSet(2, (0, 1))], [1, -1]), ([BINARY], [10 ** 29])]:
            self.assertRaises(InvalidDigits, combined, sets, factors)

    def test_incompatible_comes_before_the_limit(self):
        full = DigitSet(2, tuple(range(24)))
        self.assertRaises(Incompatible, combined, [full, full, BINARY], [1, 1, 0])
        self.assertRaises(Incompatible, combined, [full, DigitSet(3, tuple(range(24)))], [1, 1])
        self.assertRaises(Incompatible, combined, [full, full], [1, 1, 1])

    def test_incompatible_comes_before_invalid_digits(self):
        self.assertRaises(Incompatible, combined, [BINARY, BINARY], [100, 0])
        self.assertRaises(Incompatible, combined, [BINARY], [100, 100])

    def test_the_limit_comes_before_invalid_digits(self):
        five = DigitSet(2, tuple(range(5)))
        self.assertRaises(LimitReached, combined, [five, five], [100, 1])
        self.assertRaises(LimitReached, combined, [five, five], [1, -(10 ** 29)])

    def test_keywords(self):
        self.assertEqual(combined(factors=[1], sets=[BINARY]), BINARY)


if __name__ == "__main__":
    unittest.main()

"""Promise [3]: fractions and their texts."""

import unittest
from fractions import Fraction

from earlywrite.errors import OutOfRange
from earlywrite.rationals import (difference, fraction, fraction_text, greater_of, is_between, is_less, is_within,
                                  product, quotient, smaller_of, sum_of)
from helpers import pair

BIG = 999999999999999999999999999989
INTEGERS = [0, 1, -1, 2, -2, 3, -3, 4, 6, -6, 12, 35, -36, 10 ** 29, -(10 ** 29), 6 * 10 ** 28, BIG, -BIG,
            123456789012345678901234567890, -123456789012345678901234567890]


class FractionTest(unittest.TestCase):
    def test_example(self):
        self.assertEqual(fraction(6, -4), (-3, 2))

    def test_lowest_terms_for_all_signs(self):
        for numerator in INTEGERS:
            for denominator in INTEGERS:
                if denominator != 0:
                    with self.subTest(numerator=numerator, denominator=denominator):
                        self.assertEqual(fraction(numerator, denominator), pair(Fraction(numerator, denominator)))

    def test_zero_is_zero_over_one(self):
        for denominator in (1, -1, 7, -BIG):
            self.assertEqual(fraction(0, denominator), (0, 1))

    def test_omitted_denominator(self):
        for numerator in INTEGERS:
            self.assertEqual(fraction(numerator), (numerator, 1))

    def test_denominators_one_and_minus_one(self):
        self.assertEqual(fraction(-5, 1), (-5, 1))
        self.assertEqual(fraction(-5, -1), (5, 1))
        self.assertEqual(fraction(5, -1), (-5, 1))

    def test_common_factor_of_thirty_digit_integers(self):
        factor = 123456789012345
        self.assertEqual(fraction(factor * 987654321, factor * -1000), (-987654321, 1000))

    def test_denominator_zero(self):
        for numerator in (0, 1, -BIG):
            self.assertRaises(OutOfRange, fraction, numerator, 0)

    def test_result_is_a_tuple_of_two_integers(self):
        result = fraction(6, 4)
        self.assertIs(type(result), tuple)
        self.assertEqual([type(part) for part in result], [int, int])

    def test_keywords(self):
        self.assertEqual(fraction(denominator=-4, numerator=6), (-3, 2))
        self.assertEqual(fraction(numerator=6), (6, 1))


class FractionTextTest(unittest.TestCase):
    def test_example(self):
        self.assertEqual([fraction_text((-3, 2)), fraction_text((4, 1))], ["-3/2", "4"])

    def test_whole_numbers(self):
        self.assertEqual([fraction_text((k, 1)) for k in (0, 1, -1, -BIG)], ["0", "1", "-1", str(-BIG)])

    def test_broken_numbers(self):
        self.assertEqual([fraction_text((1, 10)), fraction_text((-1, 3)), fraction_text((BIG, 2))],
                         ["1/10", "-1/3", f"{BIG}/2"])

    def test_keyword(self):
        self.assertEqual(fraction_text(value=(1, 2)), "1/2")


class ArithmeticTest(unittest.TestCase):
    def test_against_fractions_of_python(self):
        numbers = [Fraction(n, d) for n in (-7, -3, -1, 0, 1, 2, 9) for d in (1, 2, 3, 6)]
        for a in numbers:
            for b in numbers:
                one, other = pair(a), pair(b)
                self.assertEqual(sum_of(one, other), pair(a + b))
                self.assertEqual(difference(one, other), pair(a - b))
                self.assertEqual(product(one, other), pair(a * b))
                if b != 0:
                    self.assertEqual(quotient(one, other), pair(a / b))
                self.assertEqual(is_less(one, other), a < b)
                self.assertEqual(smaller_of(one, other), pair(min(a, b)))
                self.assertEqual(greater_of(one, other), pair(max(a, b)))

    def test_intervals(self):
        low, high = (-1, 2), (1, 3)
        numbers = [(-1, 1), (-1, 2), (0, 1), (1, 3), (1, 2)]
        self.assertEqual([is_within(number, low, high) for number in numbers], [False, True, True, True, False])
        self.assertEqual([is_between(number, low, high) for number in numbers], [False, False, True, False, False])


if __name__ == "__main__":
    unittest.main()

"""Promises [9] and [10]: remaining functions after reading and writing, and when they are safe."""

import unittest
from fractions import Fraction

from earlywrite.digits import DigitSet
from earlywrite.lines import straight
from earlywrite.remaining import after_read, after_write, is_safe
from helpers import (BINARY, BITS, WIDE, caught, line, own_ends, own_points, own_read, own_safe, own_value, own_write,
                     plain, shaped, value_at, zigzag)

SETS = (BINARY, WIDE, BITS, DigitSet(3, (-2, -1, 0, 1, 2)), DigitSet(3, (0, 1, 2, 3)), DigitSet(4, (-2, -1, 0, 1, 2)),
        DigitSet(10, tuple(range(-6, 7))), DigitSet(2, (3, 4, 5)), DigitSet(4, (-9, -7, -5, -3)))
SHAPES = (((0, 0), (1, 1)), ((0, 1), (1, 0)), ((0, Fraction(1, 3)), (1, Fraction(1, 3))),
          ((0, 1), (Fraction(1, 2), 0), (1, 1)),
          ((0, 0), (Fraction(1, 7), 1), (Fraction(2, 7), Fraction(1, 2)), (Fraction(5, 7), 1), (1, Fraction(3, 4))))
IDENTITY = straight((1, 1), (0, 1), (-1, 1), (1, 1))


class ReadTest(unittest.TestCase):
    def test_example(self):
        self.assertEqual(after_read(IDENTITY, BINARY, 1).points(), [((-1, 1), (0, 1)), ((1, 1), (1, 1))])

    def test_every_digit(self):
        for read in SETS:
            low, high = own_ends(read)
            for shape in SHAPES:
                function = shaped(read, BINARY, *shape)
                for digit in read.digits:
                    rest = after_read(function, read, digit)
                    self.assertEqual(tuple(plain(rest)), own_read(plain(function), read, digit))
                    for share in range(13):
                        z = low + (high - low) * Fraction(share, 12)
                        self.assertEqual(value_at(plain(rest), z), value_at(plain(function), (digit + z) / read.base))

    def test_corners_that_come_to_lie_at_an_end(self):
        # The corner at 0 becomes the end behind -1 and 1, and the corner at 1/2 the middle behind 1.
        self.assertEqual(after_read(line((-1, 1), (0, 0), (1, 1)), BINARY, 1), line((-1, 0), (1, 1)))
        self.assertEqual(after_read(line((-1, 1), (0, 0), (1, 1)), BINARY, -1), line((-1, 1), (1, 0)))
        self.assertEqual(after_read(line((-1, 0), (Fraction(1, 2), 0), (1, 1)), BINARY, 1),
                         line((-1, 0), (0, 0), (1, 1)))

    def test_twelve_pieces(self):
        function = zigzag(12, -1, 1)
        self.assertEqual(len(after_read(function, BINARY, 0)), 6)
        self.assertEqual(len(after_read(function, BINARY, 1)), 6)

    def test_another_interval(self):
        for rows in ([(-1, 0), (2, 0)], [(-2, 0), (1, 0)], [(0, 0), (1, 0)], [(-1, 0), (Fraction(999, 1000), 0)]):
            for digit in (1, 0, 2):
                self.assertEqual(caught(after_read, line(*rows), BINARY, digit), ("Incompatible",))

    def test_another_digit(self):
        for digit in (2, -2, 99, 10 ** 29):
            self.assertEqual(caught(after_read, IDENTITY, BINARY, digit), ("InvalidRow",))
        self.assertEqual(caught(after_read, line((0, 0), (1, 1)), BITS, -1), ("InvalidRow",))

    def test_keywords(self):
        self.assertEqual(after_read(digit=1, read=BINARY, function=IDENTITY), line((-1, 0), (1, 1)))


class WriteTest(unittest.TestCase):
    def test_example(self):
        half = straight((1, 2), (0, 1), (-1, 1), (1, 1))
        self.assertEqual(after_write(half, BINARY, 1).points(), [((-1, 1), (-2, 1)), ((1, 1), (0, 1))])

    def test_every_digit(self):
        for write in SETS:
            for shape in SHAPES:
                function = shaped(BINARY, write, *shape)
                for digit in write.digits:
                    self.assertEqual(tuple(plain(after_write(function, write, digit))),
                                     own_write(plain(function), write, digit))

    def test_any_interval(self):
        self.assertEqual(after_write(line((5, 1), (6, 3), (9, 3)), BINARY, -1), line((5, 3), (6, 7), (9, 7)))
        self.assertEqual(len(after_write(zigzag(12), BINARY, 0)), 12)

    def test_another_digit(self):
        for digit in (2, -2, 99, 10 ** 29):
            self.assertEqual(caught(after_write, IDENTITY, BINARY, digit), ("InvalidRow",))

    def test_keywords(self):
        self.assertEqual(after_write(digit=1, write=BINARY, function=IDENTITY), line((-1, -3), (1, 1)))


class ManyStepsTest(unittest.TestCase):
    def test_steps_against_the_formula(self):
        # G(z) = B ** k * (f(P + z / B ** n) - Y)
        for read, write in ((BINARY, WIDE), (WIDE, BINARY), (SETS[4], SETS[3])):
            low, high = own_ends(read)
            function = shaped(read, write, *SHAPES[4])
            for row, out in (((read.digits[0], read.digits[-1]), (write.digits[1],)),
                             ((read.digits[1],), (write.digits[0], write.digits[-1], write.digits[1])),
                             ((read.digits[1], read.digits[0], read.digits[-1], read.digits[0]), write.digits[:2])):
                rest = function
                for digit in row:
                    rest = after_read(rest, read, digit)
                for digit in out:
                    rest = after_write(rest, write, digit)
                for share in range(7):
                    z = low + (high - low) * Fraction(share, 6)
                    x = own_value(row, read.base) + z / read.base ** len(row)
                    expected = (value_at(plain(function), x) - own_value(out, write.base)) * write.base ** len(out)
                    self.assertEqual(value_at(plain(rest), z), expected)

    def test_the_order_of_reading_and_writing_does_not_matter(self):
        function = shaped(BINARY, BINARY, *SHAPES[3])
        self.assertEqual(after_write(after_read(function, BINARY, 1), BINARY, 1),
                         after_read(after_write(function, BINARY, 1), BINARY, 1))

    def test_arguments_are_not_changed(self):
        function = shaped(BINARY, BINARY, *SHAPES[3])
        before = function.points()
        for made in (after_read(function, BINARY, 0), after_write(function, BINARY, 0)):
            made.points().clear()
        is_safe(function, BINARY)
        self.assertEqual((function.points(), BINARY), (before, DigitSet(2, (-1, 0, 1))))


class SafeTest(unittest.TestCase):
    def test_example(self):
        self.assertEqual([is_safe(straight((k, 1), (0, 1), (-1, 1), (1, 1)), BINARY) for k in (1, 2)], [True, False])

    def test_just_safe_and_just_not(self):
        tiny = Fraction(1, 10 ** 11)
        for write in SETS:
            low, high = own_ends(write)
            middle = (low + high) / 2
            for rows, expected in (
                ([(0, low), (1, high)], True), ([(0, low), (1, low)], True), ([(0, high), (1, high)], True),
                ([(0, middle), (1, high), (2, low), (3, middle)], True),
                ([(0, low - tiny), (1, high)], False), ([(0, low), (1, high + tiny)], False),
                ([(0, middle), (1, high + tiny), (2, middle)], False), ([(0, middle), (1, low - tiny), (2, middle)],
                                                                        False),
                ([(0, low - 1), (1, high + 1)], False), ([(0, high + tiny), (1, high + tiny)], False),
            ):
                function = line(*rows)
                self.assertIs(is_safe(function, write), expected)
                self.assertEqual(own_safe(own_points(function.points()), write), expected)

    def test_what_is_not_safe_stays_so_when_digits_are_written(self):
        for write in SETS:
            function = line((0, own_ends(write)[1] + Fraction(1, 1000)), (1, own_ends(write)[0]))
            for digit in write.digits:
                self.assertFalse(is_safe(after_write(function, write, digit), write))

    def test_keywords(self):
        self.assertTrue(is_safe(write=BINARY, function=IDENTITY))


if __name__ == "__main__":
    unittest.main()

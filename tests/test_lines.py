"""Promise [6]: line functions and what is made of them."""

import random
import unittest
from fractions import Fraction

from earlywrite.errors import Incompatible, InvalidPoints, LimitReached, OutOfRange
from earlywrite.lines import (MAX_PIECES, LineFunction, abs_line, add_lines, compose_lines, max_lines, min_lines,
                              restrict_line, scale_line, straight)
from helpers import line, pair, pairs, plain, points, sample_numbers, value_at, zigzag

UP_DOWN = line((0, 0), (1, 3), (2, 2))
IDENTITY = straight((1, 1), (0, 1), (-1, 1), (1, 1))
ZERO = straight((0, 1), (0, 1), (-1, 1), (1, 1))


def some_functions(low, high, many, seed, most=5, height=4):
    """Functions on an interval with few pieces, the same ones in every run."""
    chance = random.Random(seed)
    functions = []
    for _ in range(many):
        inner = sorted({Fraction(chance.randint(1, 23), 24) for _ in range(chance.randint(0, most))})
        xs = [low] + [low + (high - low) * share for share in inner] + [high]
        functions.append(line(*[(x, Fraction(chance.randint(-3 * height, 3 * height), 3)) for x in xs]))
    return functions


class LineTestCase(unittest.TestCase):
    def assert_limit(self, call, *arguments):
        with self.assertRaises(LimitReached) as caught:
            call(*arguments)
        self.assertEqual(caught.exception.limit, 12)

    def assert_normal(self, function):
        """The points ascend, and no inner one lies on the line between its neighbours."""
        rows = plain(function)
        self.assertEqual([pair(x) for x, y in rows], [x for x, y in function.points()])
        self.assertEqual([pair(y) for x, y in rows], [y for x, y in function.points()])
        for (x0, y0), (x1, y1) in zip(rows, rows[1:]):
            self.assertLess(x0, x1)
        for (x0, y0), (x1, y1), (x2, y2) in zip(rows, rows[1:], rows[2:]):
            self.assertNotEqual((y1 - y0) * (x2 - x1), (y2 - y1) * (x1 - x0))

    def assert_values(self, result, expected, *functions):
        """The result is a function of the values of the given functions, at the points of all and between."""
        self.assert_normal(result)
        numbers = set(sample_numbers(result)).union(*[sample_numbers(function) for function in functions])
        for number in sorted(numbers):
            values = [value_at(plain(function), number) for function in functions]
            self.assertEqual(value_at(plain(result), number), expected(*values))


class LineFunctionTest(LineTestCase):
    def test_constant(self):
        self.assertEqual(MAX_PIECES, 12)

    def test_example_of_the_normal_form(self):
        f = LineFunction([((0, 1), (0, 1)), ((1, 1), (1, 1)), ((2, 1), (2, 1))])
        self.assertEqual([len(f), repr(f)], [1, "LineFunction(1 pieces)"])

    def test_example_of_ends_and_values(self):
        f = LineFunction([((0, 1), (0, 1)), ((1, 1), (3, 1)), ((2, 1), (2, 1))])
        self.assertEqual([f.low(), f.high(), f.least(), f.greatest()], [(0, 1), (2, 1), (0, 1), (3, 1)])

    def test_example_of_a_value(self):
        f = LineFunction([((0, 1), (0, 1)), ((1, 1), (3, 1)), ((2, 1), (2, 1))])
        self.assertEqual(f.value((1, 3)), (1, 1))

    def test_points_are_a_list_of_pairs(self):
        given = [((-1, 2), (0, 1)), ((1, 3), (5, 7)), ((2, 1), (-3, 2))]
        self.assertEqual(LineFunction(given).points(), given)
        self.assertEqual(LineFunction(tuple(given)).points(), given)
        self.assertIs(type(LineFunction(tuple(given)).points()), list)

    def test_length_and_repr(self):
        self.assertEqual([len(UP_DOWN), repr(UP_DOWN)], [2, "LineFunction(2 pieces)"])
        self.assertEqual([len(zigzag(12)), repr(zigzag(12))], [12, "LineFunction(12 pieces)"])

    def test_one_point_on_the_line_between_its_neighbours(self):
        self.assertEqual(plain(line((0, 0), (1, 1), (2, 2), (3, 0))), [(0, 0), (2, 2), (3, 0)])
        self.assertEqual(plain(line((0, 0), (2, 2), (3, 0), (4, -2))), [(0, 0), (2, 2), (4, -2)])
        self.assertEqual(plain(line((0, 5), (1, 5), (3, 5))), [(0, 5), (3, 5)])

    def test_several_such_points_one_after_another(self):
        f = line((0, 0), (1, 2), (Fraction(3, 2), 3), (2, 4), (3, 6), (4, 5), (5, 4), (7, 2))
        self.assertEqual(plain(f), [(0, 0), (3, 6), (7, 2)])

    def test_almost_straight(self):
        near = Fraction(10 ** 12 - 1, 10 ** 12 - 2)
        self.assertEqual(len(line((0, 0), (1, 1), (2, 1 + near))), 2)

    def test_many_points_of_few_pieces(self):
        f = LineFunction(points([(k, abs(k - 500)) for k in range(1000)]))
        self.assertEqual(plain(f), [(0, 500), (500, 0), (999, 499)])

    def test_too_few_points(self):
        self.assertRaises(InvalidPoints, LineFunction, [])
        self.assertRaises(InvalidPoints, LineFunction, ())
        self.assertRaises(InvalidPoints, LineFunction, points([(0, 0)]))

    def test_x_that_stands_still_or_falls(self):
        half, third = Fraction(1, 2), Fraction(1, 3)
        for xs in ([0, 0], [1, 0], [0, 1, 1], [0, 0, 1], [0, 2, 1], [0, -1, 1], [half, third], [0, half, third, 1]):
            self.assertRaises(InvalidPoints, LineFunction, points([(x, 0) for x in xs]))
            self.assertRaises(InvalidPoints, LineFunction, points([(x, k) for k, x in enumerate(xs)]))

    def test_order_of_size_and_not_of_tuples(self):
        self.assertEqual(line((Fraction(2, 3), 0), (1, 1)).low(), (2, 3))
        self.assertRaises(InvalidPoints, LineFunction, points([(1, 0), (Fraction(2, 3), 1)]))
        self.assertEqual(line((0, Fraction(2, 3)), (1, 1)).greatest(), (1, 1))
        self.assertEqual(line((0, Fraction(2, 3)), (1, 1)).least(), (2, 3))

    def test_twelve_and_thirteen_pieces(self):
        rows = points([(k, k % 2) for k in range(14)])
        self.assertEqual(len(LineFunction(rows[:13])), 12)
        self.assert_limit(LineFunction, rows)

    def test_only_pieces_of_the_normal_form_count(self):
        half = [(Fraction(k, 2), value_at([(j, j % 2) for j in range(14)], Fraction(k, 2))) for k in range(27)]
        self.assertEqual(len(line(*half[:25])), 12)
        self.assert_limit(LineFunction, points(half))

    def test_invalid_points_come_before_the_limit(self):
        rows = points([(k, k % 2) for k in range(20)])
        self.assertRaises(InvalidPoints, LineFunction, rows + rows[:1])

    def test_values(self):
        f = line((-1, 2), (0, Fraction(1, 2)), (3, Fraction(1, 2)), (4, -7))
        self.assertEqual([f.value(x) for x in pairs([-1, 0, 3, 4])], pairs([2, Fraction(1, 2), Fraction(1, 2), -7]))
        self.assertEqual(f.value((-1, 2)), (5, 4))
        self.assertEqual(f.value((2, 1)), (1, 2))
        self.assertEqual(f.value((7, 2)), (-13, 4))
        self.assertEqual(zigzag(12).value((23, 2)), (1, 2))
        self.assertEqual((f.least(), f.greatest()), ((-7, 1), (2, 1)))

    def test_values_outside(self):
        for number in ((-1, 10 ** 11), (-1, 1), (20000000001, 10000000000), (3, 1)):
            self.assertRaises(OutOfRange, UP_DOWN.value, number)

    def test_least_and_greatest_at_inner_points(self):
        f = line((0, 1), (1, -2), (2, 5), (3, 0))
        self.assertEqual((f.least(), f.greatest()), ((-2, 1), (5, 1)))
        g = straight((0, 1), (7, 3), (0, 1), (1, 1))
        self.assertEqual((g.least(), g.greatest()), ((7, 3), (7, 3)))

    def test_equality(self):
        self.assertEqual(line((0, 0), (1, 1), (2, 2)), line((0, 0), (2, 2)))
        self.assertFalse(line((0, 0), (1, 1), (2, 2)) != line((0, 0), (2, 2)))
        for other in (line((0, 0), (1, 3), (2, 1)), line((0, 0), (1, 3), (3, 2)), line((0, 0), (2, 2)),
                      UP_DOWN.points(), tuple(UP_DOWN.points()), "LineFunction(2 pieces)", 2, None):
            self.assertFalse(UP_DOWN == other)
            self.assertTrue(UP_DOWN != other)

    def test_keywords(self):
        self.assertEqual(LineFunction(points=UP_DOWN.points()).value(number=(1, 3)), (1, 1))


class StraightTest(LineTestCase):
    def test_example(self):
        self.assertEqual(straight((1, 2), (1, 1), (0, 1), (2, 1)).points(), [((0, 1), (1, 1)), ((2, 1), (2, 1))])

    def test_values(self):
        f = straight((-2, 3), (5, 7), (-1, 2), (10, 3))
        ends = (Fraction(-1, 2), Fraction(10, 3))
        self.assertEqual(plain(f), [(x, Fraction(-2, 3) * x + Fraction(5, 7)) for x in ends])
        self.assertEqual(len(f), 1)

    def test_constant_function(self):
        self.assertEqual(plain(straight((0, 1), (-1, 2), (0, 1), (1, 1))), [(0, Fraction(-1, 2)), (1, Fraction(-1, 2))])

    def test_low_that_is_not_less_than_high(self):
        for low, high in [((1, 1), (1, 1)), ((1, 1), (0, 1)), ((1, 2), (1, 3)), ((0, 1), (-1, 1))]:
            self.assertRaises(InvalidPoints, straight, (1, 1), (0, 1), low, high)
            self.assertRaises(InvalidPoints, straight, (0, 1), (0, 1), low, high)

    def test_keywords(self):
        f = straight(high=(2, 1), low=(0, 1), offset=(1, 1), slope=(1, 2))
        self.assertEqual(f.points(), [((0, 1), (1, 1)), ((2, 1), (2, 1))])


class TwoFunctionsTest(LineTestCase):
    CALLS = ((add_lines, lambda a, b: a + b), (max_lines, max), (min_lines, min))

    def test_example(self):
        self.assertEqual(max_lines(IDENTITY, ZERO).points(), [((-1, 1), (0, 1)), ((0, 1), (0, 1)), ((1, 1), (1, 1))])

    def test_many_functions(self):
        functions = some_functions(-1, 2, 16, seed=1)
        for call, expected in self.CALLS:
            for one in functions[:8]:
                for other in functions[8:]:
                    self.assert_values(call(one, other), expected, one, other)

    def test_functions_with_one_or_no_common_point(self):
        one, other = line((0, 0), (1, 1), (2, 0)), line((0, 1), (1, 1), (2, 1))
        self.assertEqual(max_lines(one, other), other)
        self.assertEqual(min_lines(one, other), one)
        far = line((0, 5), (2, 5))
        self.assertEqual(max_lines(one, far), far)
        self.assertEqual(min_lines(far, one), one)

    def test_crossings_between_the_points(self):
        one, other = line((0, 0), (3, 3)), line((0, 2), (3, 1))
        self.assertEqual(plain(max_lines(one, other)), [(0, 2), (Fraction(3, 2), Fraction(3, 2)), (3, 3)])
        self.assertEqual(plain(min_lines(one, other)), [(0, 0), (Fraction(3, 2), Fraction(3, 2)), (3, 1)])
        self.assertEqual(len(add_lines(one, other)), 1)

    def test_crossings_at_a_point(self):
        one, other = line((0, -1), (1, 0), (2, 3)), line((0, 0), (2, 0))
        self.assertEqual(plain(max_lines(one, other)), [(0, 0), (1, 0), (2, 3)])
        self.assertEqual(plain(min_lines(one, other)), [(0, -1), (1, 0), (2, 0)])

    def test_equal_functions(self):
        self.assertEqual(max_lines(UP_DOWN, UP_DOWN), UP_DOWN)
        self.assertEqual(min_lines(UP_DOWN, UP_DOWN), UP_DOWN)
        self.assertEqual(add_lines(UP_DOWN, UP_DOWN), scale_line(UP_DOWN, (2, 1)))

    def test_sum_whose_corners_vanish(self):
        self.assertEqual(plain(add_lines(zigzag(12), scale_line(zigzag(12), (-1, 1)))), [(0, 0), (12, 0)])

    def test_constant_functions(self):
        one, other = straight((0, 1), (1, 2), (0, 1), (1, 1)), straight((0, 1), (-1, 3), (0, 1), (1, 1))
        self.assertEqual(plain(add_lines(one, other)), [(0, Fraction(1, 6)), (1, Fraction(1, 6))])
        self.assertEqual(max_lines(one, other), one)
        self.assertEqual(min_lines(one, other), other)

    def test_different_intervals(self):
        for rows in ([(0, 0), (3, 2)], [(-1, 0), (2, 2)], [(Fraction(1, 2), 0), (2, 2)], [(5, 0), (6, 0)]):
            for call, _ in self.CALLS:
                self.assertRaises(Incompatible, call, UP_DOWN, line(*rows))
                self.assertRaises(Incompatible, call, line(*rows), UP_DOWN)

    def test_twelve_and_thirteen_pieces_of_a_sum(self):
        low, high = pair(0), pair(14)
        left = line(*[(k, k % 2) for k in range(7)], (14, 0))
        for pieces, right in ((12, [(0, 0)] + [(k, k % 2) for k in range(8, 13)] + [(14, 0)]),
                              (13, [(0, 0)] + [(k, k % 2) for k in range(8, 14)] + [(14, 0)])):
            other = line(*right)
            self.assertEqual((other.low(), other.high()), (low, high))
            corners = {x for x, y in plain(left)} | {x for x, y in plain(other)}
            self.assertEqual(len(corners) - 1, pieces)
            if pieces == 12:
                self.assertEqual(len(add_lines(left, other)), 12)
            else:
                self.assert_limit(add_lines, left, other)

    def test_twelve_and_thirteen_pieces_of_max_and_min(self):
        # Cut at the level, 8 pieces become 16, of which those on the level merge at the 3 or 4 corners beyond it.
        level = line((0, Fraction(1, 2)), (8, Fraction(1, 2)))
        begins_below = zigzag(8)
        begins_above = line(*[(x, 1 - y) for x, y in plain(begins_below)])
        for call, twelve, thirteen in ((max_lines, begins_above, begins_below),
                                       (min_lines, begins_below, begins_above)):
            self.assertEqual(len(call(twelve, level)), 12)
            self.assertEqual(len(call(level, twelve)), 12)
            self.assert_limit(call, thirteen, level)
            self.assert_limit(call, level, thirteen)

    def test_incompatible_comes_before_the_limit(self):
        level = line((0, Fraction(1, 2)), (13, Fraction(1, 2)))
        for call, _ in self.CALLS:
            self.assertRaises(Incompatible, call, zigzag(12), level)

    def test_keywords(self):
        for call, _ in self.CALLS:
            self.assertEqual(call(other=ZERO, one=IDENTITY), call(IDENTITY, ZERO))


class OneFunctionTest(LineTestCase):
    def test_example(self):
        self.assertEqual([scale_line(IDENTITY, (0, 1)).points(), len(abs_line(IDENTITY))],
                         [[((-1, 1), (0, 1)), ((1, 1), (0, 1))], 2])

    def test_scaled_functions(self):
        for function in some_functions(-2, 1, 8, seed=2):
            for factor in (Fraction(0), Fraction(1), Fraction(-1), Fraction(5, 3), Fraction(-1, 7)):
                self.assert_values(scale_line(function, pair(factor)), lambda y: factor * y, function)

    def test_scaling_by_zero_leaves_one_piece(self):
        self.assertEqual(plain(scale_line(zigzag(12), (0, 1))), [(0, 0), (12, 0)])
        self.assertEqual(len(scale_line(zigzag(12), (-1, 9))), 12)

    def test_absolute_values(self):
        for function in some_functions(-2, 1, 20, seed=3):
            self.assert_values(abs_line(function), abs, function)

    def test_absolute_values_without_a_crossing(self):
        self.assertEqual(abs_line(UP_DOWN), UP_DOWN)
        self.assertEqual(abs_line(scale_line(UP_DOWN, (-1, 1))), UP_DOWN)
        self.assertEqual(abs_line(ZERO), ZERO)
        self.assertEqual(plain(abs_line(straight((0, 1), (-1, 2), (0, 1), (1, 1)))),
                         [(0, Fraction(1, 2)), (1, Fraction(1, 2))])

    def test_twelve_and_thirteen_pieces_of_an_absolute_value(self):
        # Heights of 2 and -1 keep the corners apart; each piece of the zigzag crosses 0 once.
        six = line(*[(k, 2 if k % 2 else -1) for k in range(7)])
        self.assertEqual(len(abs_line(six)), 12)
        seven = line(*[(k, 2 if k % 2 else -1) for k in range(7)], (7, 1))
        self.assert_limit(abs_line, seven)

    def test_keywords(self):
        self.assertEqual(scale_line(factor=(0, 1), function=IDENTITY), ZERO)
        self.assertEqual(abs_line(function=ZERO), ZERO)


class RestrictTest(LineTestCase):
    HALF = straight((1, 2), (0, 1), (-1, 1), (1, 1))

    def test_example(self):
        self.assertEqual([compose_lines(self.HALF, self.HALF).value((1, 1)),
                          restrict_line(self.HALF, (0, 1), (1, 1)).points()],
                         [(1, 4), [((0, 1), (0, 1)), ((1, 1), (1, 2))]])

    def test_all_parts(self):
        for function in some_functions(0, 2, 8, seed=4) + [UP_DOWN]:
            numbers = [Fraction(k, 4) for k in range(9)]
            for low in numbers:
                for high in numbers:
                    if low < high:
                        part = restrict_line(function, pair(low), pair(high))
                        self.assert_normal(part)
                        self.assertEqual((part.low(), part.high()), (pair(low), pair(high)))
                        for number in sample_numbers(part):
                            self.assertEqual(part.value(pair(number)), function.value(pair(number)))

    def test_the_whole_interval(self):
        self.assertEqual(restrict_line(UP_DOWN, (0, 1), (2, 1)), UP_DOWN)
        self.assertEqual(restrict_line(zigzag(12), (0, 1), (12, 1)), zigzag(12))

    def test_ends_at_inner_points(self):
        self.assertEqual(plain(restrict_line(UP_DOWN, (1, 1), (2, 1))), [(1, 3), (2, 2)])
        self.assertEqual(plain(restrict_line(UP_DOWN, (0, 1), (1, 1))), [(0, 0), (1, 3)])

    def test_low_that_is_not_less_than_high(self):
        for low, high in [(1, 1), (0, 0), (2, 2), (2, 0), (Fraction(1, 2), Fraction(1, 3)), (3, 3), (3, -1)]:
            self.assertRaises(OutOfRange, restrict_line, UP_DOWN, pair(low), pair(high))

    def test_ends_outside_of_the_interval(self):
        tiny = Fraction(1, 10 ** 11)
        for low, high in [(-tiny, 1), (1, 2 + tiny), (-1, 3), (-2, -1), (3, 4), (-1, 0), (2, 3)]:
            self.assertRaises(OutOfRange, restrict_line, UP_DOWN, pair(low), pair(high))

    def test_keywords(self):
        self.assertEqual(plain(restrict_line(high=(2, 1), low=(1, 1), function=UP_DOWN)), [(1, 3), (2, 2)])


class ComposeTest(LineTestCase):
    def assert_composed(self, outer, inner):
        self.assert_values(compose_lines(outer, inner), lambda y: value_at(plain(outer), y), inner)

    def test_many_functions(self):
        outers = some_functions(-4, 4, 8, seed=5, most=2)
        for outer in outers:
            for inner in some_functions(-1, 1, 8, seed=6, most=3):
                self.assert_composed(outer, inner)

    def test_rising_and_falling_inner_functions(self):
        outer = line((0, 0), (1, 2), (2, 1), (3, 5))
        self.assertEqual(plain(compose_lines(outer, line((0, 0), (6, 3)))), [(0, 0), (2, 2), (4, 1), (6, 5)])
        self.assertEqual(plain(compose_lines(outer, line((0, 3), (6, 0)))), [(0, 5), (2, 1), (4, 2), (6, 0)])

    def test_corners_that_vanish(self):
        outer, inner = line((0, 0), (1, 2), (3, 3)), line((0, 0), (1, 1), (5, 3))
        self.assertEqual(plain(compose_lines(outer, inner)), [(0, 0), (1, 2), (5, 3)])
        undo = line((0, 0), (2, 1), (3, 3))
        self.assertEqual(plain(compose_lines(undo, outer)), [(0, 0), (3, 3)])

    def test_constant_functions(self):
        level = straight((0, 1), (1, 1), (-5, 1), (5, 1))
        self.assertEqual(plain(compose_lines(UP_DOWN, level)), [(-5, 3), (5, 3)])
        self.assertEqual(plain(compose_lines(level, UP_DOWN)), [(0, 1), (2, 1)])

    def test_identity(self):
        self.assertEqual(compose_lines(straight((1, 1), (0, 1), (0, 1), (3, 1)), UP_DOWN), UP_DOWN)
        self.assertEqual(compose_lines(UP_DOWN, straight((1, 1), (0, 1), (0, 1), (2, 1))), UP_DOWN)

    def test_values_outside_of_the_outer_interval(self):
        tiny = Fraction(1, 10 ** 11)
        self.assertEqual(plain(compose_lines(UP_DOWN, line((0, 0), (1, 2), (2, 0)))),
                         [(0, 0), (Fraction(1, 2), 3), (1, 2), (Fraction(3, 2), 3), (2, 0)])
        for rows in ([(0, 0), (1, 2 + tiny), (2, 0)], [(0, 0), (1, -tiny), (2, 0)], [(0, 3), (1, 4)],
                     [(0, -1), (1, 3)]):
            self.assertRaises(OutOfRange, compose_lines, UP_DOWN, line(*rows))

    def test_twelve_and_thirteen_pieces(self):
        tooth = line((0, 0), (Fraction(1, 3), 1), (1, 0))
        self.assertEqual(len(compose_lines(tooth, zigzag(6))), 12)
        self.assert_limit(compose_lines, tooth, zigzag(7))
        self.assertEqual(len(compose_lines(zigzag(12, 0, 1), line((0, 0), (5, 1)))), 12)
        # Behind 1 the inner function goes back on the last piece of the outer one, which adds a single piece.
        self.assert_limit(compose_lines, zigzag(12, 0, 1), line((0, 0), (1, 1), (2, Fraction(23, 24))))

    def test_out_of_range_comes_before_the_limit(self):
        self.assertRaises(OutOfRange, compose_lines, zigzag(12, 0, 1), zigzag(12, height=2))

    def test_keywords(self):
        self.assertEqual(compose_lines(inner=UP_DOWN, outer=zigzag(3)), compose_lines(zigzag(3), UP_DOWN))


if __name__ == "__main__":
    unittest.main()

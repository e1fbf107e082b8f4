"""Tests of betwixt.ends.width and betwixt.ends.middle."""

import random
import unittest
from fractions import Fraction

from betwixt.ends import middle, width
from oracle import (
    ALL_KINDS, EMPTY, GREATEST, GREATEST_SMALL, LAST_BITS, LEAST_NORMAL, LEAST_SMALL, MINUS_INFINITE, MINUS_ZERO,
    PLUS_INFINITE, at, bits_of, bounds, fault_of_middle, fault_of_width, is_finite, is_interval, minus, minus_told,
    next_above, next_below, value,
)
from samples import (
    ABOVE, BELOW, LINE, NEARLY_SMALL, NONE, SAME_BUT_NORMAL, SHAPES, WRONG, ZERO, fault_of_answer, intervals_of,
    intervals_of_all_kinds, numbers_of, pair, told_as,
)

ALL_ZEROS = [ZERO, (MINUS_ZERO, 0), (MINUS_ZERO, MINUS_ZERO)]
# Beside 1 and above it, numbers are this far apart.
STEP = Fraction(1, 1 << 63)
TINY = value(LEAST_SMALL)


def one_points():
    """The one-point intervals of every finite kind of number."""
    return [(bits, bits) for bits in ALL_KINDS if is_finite(bits)]


def turned(x):
    """Minus X."""
    return minus(x[1]), minus(x[0])


class RefusalTest(unittest.TestCase):
    def test_empty(self):
        self.assertEqual(width(EMPTY, EMPTY), [-5])
        self.assertEqual(middle(EMPTY, EMPTY), [-5])

    def test_no_interval(self):
        for x in WRONG + [(LAST_BITS, EMPTY), (EMPTY, LAST_BITS), (bits_of(0, 0x7FFF, 0), PLUS_INFINITE)]:
            self.assertEqual(width(*x), [-2], told_as(x))
            self.assertEqual(middle(*x), [-2], told_as(x))

    def test_every_pair_of_all_kinds(self):
        for low in ALL_KINDS:
            for high in ALL_KINDS:
                if low == high == EMPTY:
                    continue
                for call in (width, middle):
                    first = call(low, high)[0]
                    self.assertEqual(first, 0 if is_interval(low, high) else -2, told_as((low, high)))


class WidthTest(unittest.TestCase):
    def check(self, x, wanted):
        """X has this width, and so has minus X."""
        self.assertEqual(told_as(width(*x)), told_as([0, wanted]), told_as(x))
        self.assertEqual(told_as(width(*turned(x))), told_as([0, wanted]), told_as(turned(x)))

    def test_the_row_of_the_example(self):
        self.assertEqual(width(*pair(1, Fraction(3, 2))), [0, at(Fraction(1, 2))])

    def test_one_point(self):
        for x in one_points() + ALL_ZEROS + [(SAME_BUT_NORMAL, NEARLY_SMALL), (NEARLY_SMALL, SAME_BUT_NORMAL)]:
            self.assertEqual(width(*x), [0, 0], told_as(x))

    def test_unbounded(self):
        for x in (LINE, ABOVE, BELOW, (at(1), PLUS_INFINITE), (at(-1), PLUS_INFINITE), (MINUS_ZERO, PLUS_INFINITE),
                  (GREATEST, PLUS_INFINITE), (minus(GREATEST), PLUS_INFINITE), (NEARLY_SMALL, PLUS_INFINITE)):
            self.check(x, PLUS_INFINITE)

    def test_exact(self):
        self.check(pair(1, 2), at(1))
        self.check(pair(-1, 2), at(3))
        self.check(pair(Fraction(1, 4), 1000), at(1000 - Fraction(1, 4)))
        self.check((at(1), next_above(at(1))), at(STEP))
        self.check((next_below(at(1)), at(1)), at(STEP / 2))
        self.check((next_below(at(1)), next_above(at(1))), at(STEP * 3 / 2))
        self.check(pair(-(1 << 63), 1 << 63), at(1 << 64))

    def test_rounded_up(self):
        self.check((at(-1), LEAST_SMALL), next_above(at(1)))
        self.check((LEAST_SMALL, at(1)), at(1))
        self.check((at(-1), next_above(at(1))), at(2 + 2 * STEP))
        self.check((at(-1), next_above(next_above(at(1)))), at(2 + 2 * STEP))
        self.check(pair(1 - (1 << 64), 2), at((1 << 64) + 2))
        self.check(pair(-2, (1 << 64) - 2), at(1 << 64))
        self.check(pair(1 - (1 << 64), Fraction(1, 2)), at(1 << 64))
        self.check(pair(Fraction(-1, 1 << 200), 7), next_above(at(7)))
        self.check(pair(Fraction(1, 1 << 200), 7), at(7))

    def test_exponents_far_apart(self):
        self.check((minus(LEAST_SMALL), GREATEST), PLUS_INFINITE)
        self.check((LEAST_SMALL, GREATEST), GREATEST)
        self.check((at(1), GREATEST), GREATEST)
        self.check((LEAST_NORMAL, at(1 << 9000)), at(1 << 9000))
        self.check((minus(LEAST_NORMAL), at(1 << 9000)), next_above(at(1 << 9000)))

    def test_zero_at_an_end(self):
        for zero in (0, MINUS_ZERO):
            for size in (LEAST_SMALL, GREATEST_SMALL, LEAST_NORMAL, at(1), at(3), GREATEST):
                self.check((zero, size), size)
            self.check((zero, NEARLY_SMALL), SAME_BUT_NORMAL)

    def test_about_the_greatest(self):
        half = at(value(GREATEST) / 2)
        step = value(GREATEST) - value(GREATEST - 1)
        self.check((minus(half), half), GREATEST)
        self.check((minus(half), next_below(half)), GREATEST)
        self.check((minus(next_below(half)), next_below(half)), GREATEST - 1)
        self.check((minus(half), next_above(half)), PLUS_INFINITE)
        self.check((minus(GREATEST), GREATEST), PLUS_INFINITE)
        self.check((minus(GREATEST - 1), at(step)), GREATEST)
        self.check((minus(GREATEST - 1), at(step / 2)), GREATEST)
        self.check((minus(GREATEST - 1), next_above(at(step))), PLUS_INFINITE)
        self.check((minus(GREATEST), at(step)), PLUS_INFINITE)

    def test_small(self):
        self.check((LEAST_SMALL, 2), LEAST_SMALL)
        self.check((minus(LEAST_SMALL), LEAST_SMALL), 2)
        self.check((minus(LEAST_SMALL), GREATEST_SMALL), LEAST_NORMAL)
        self.check((GREATEST_SMALL, LEAST_NORMAL), LEAST_SMALL)
        self.check((GREATEST_SMALL, 1 << 63), LEAST_SMALL)
        self.check((1 << 63, NEARLY_SMALL), 1 << 62)
        self.check((minus(GREATEST_SMALL), GREATEST_SMALL), at(2 * value(GREATEST_SMALL)))
        self.check((at(-1), NEARLY_SMALL), next_above(at(1)))


class MiddleTest(unittest.TestCase):
    def check(self, x, wanted):
        """X has this middle, and minus X has minus this."""
        self.assertEqual(told_as(middle(*x)), told_as([0, wanted]), told_as(x))
        self.assertEqual(told_as(middle(*turned(x))), told_as([0, minus_told(wanted)]), told_as(turned(x)))

    def test_one_point(self):
        for x in one_points():
            self.assertEqual(middle(*x), [0, at(value(x[0]))], told_as(x))
        self.check((SAME_BUT_NORMAL, NEARLY_SMALL), SAME_BUT_NORMAL)
        self.check((NEARLY_SMALL, SAME_BUT_NORMAL), SAME_BUT_NORMAL)
        for x in ALL_ZEROS:
            self.assertEqual(middle(*x), [0, 0])

    def test_unbounded(self):
        self.assertEqual(middle(*LINE), [0, 0])
        for low in (0, MINUS_ZERO, at(1), at(-1), GREATEST, minus(GREATEST), LEAST_SMALL, NEARLY_SMALL):
            self.assertEqual(middle(low, PLUS_INFINITE), [0, GREATEST])
            self.assertEqual(middle(MINUS_INFINITE, low), [0, minus(GREATEST)])

    def test_exact(self):
        self.check(pair(1, 2), at(Fraction(3, 2)))
        self.check(pair(-1, 3), at(1))
        self.check(pair(0, 7), at(Fraction(7, 2)))
        self.check((MINUS_ZERO, at(7)), at(Fraction(7, 2)))
        self.check(pair(1, 1 + 2 * STEP), at(1 + STEP))
        self.check((0, LEAST_NORMAL), 1 << 62)

    def test_opposite_ends(self):
        for size in (LEAST_SMALL, GREATEST_SMALL, NEARLY_SMALL, LEAST_NORMAL, at(1), at(3), GREATEST):
            self.assertEqual(middle(minus(size), size), [0, 0])
        self.assertEqual(middle(minus(SAME_BUT_NORMAL), NEARLY_SMALL), [0, 0])
        self.assertEqual(middle(minus(NEARLY_SMALL), SAME_BUT_NORMAL), [0, 0])

    def test_just_between_two(self):
        self.check(pair(1, 1 + STEP), at(1))
        self.check(pair(1 + STEP, 1 + 2 * STEP), at(1 + 2 * STEP))
        self.check(pair(1 + 2 * STEP, 1 + 3 * STEP), at(1 + 2 * STEP))
        self.check(pair(1 - STEP / 2, 1), at(1))
        self.check(pair(1 - STEP, 1 - STEP / 2), at(1 - STEP))
        self.check(pair(1, (1 << 64) + 2), at((1 << 63) + 2))
        self.check(pair(1, 1 << 64), at(1 << 63))
        self.check(pair(-1, (1 << 65) - 4), at((1 << 64) - 2))
        self.check(pair(-1, (1 << 65) - 2), at((1 << 64) - 2))
        self.check(pair(1, (1 << 65) - 2), at(1 << 64))

    def test_nearer_to_one_of_two(self):
        self.check(pair(Fraction(1, 2), 1 << 64), at(1 << 63))
        self.check(pair(Fraction(3, 2), 1 << 64), at((1 << 63) + 1))
        self.check(pair(Fraction(1, 2), (1 << 64) + 2), at((1 << 63) + 1))
        self.check(pair(-1, (1 << 64) - 1), at((1 << 63) - 1))
        self.check(pair(Fraction(-1, 4), (1 << 64) - 1), at((1 << 63) - Fraction(1, 2)))
        self.check(pair(Fraction(-3, 4), (1 << 64) - 1), at((1 << 63) - 1))

    def test_the_far_smaller_end_tips_the_balance(self):
        # Half of 2^64 and 1 lies just between two numbers; a little more or less than 1 tips it.
        self.check((at(1), at(1 << 64)), at(1 << 63))
        self.check((next_above(at(1)), at(1 << 64)), at((1 << 63) + 1))
        self.check((next_below(at(1)), at(1 << 64)), at(1 << 63))
        self.check((at(1), at((1 << 64) + 2)), at((1 << 63) + 2))
        self.check((next_below(at(1)), at((1 << 64) + 2)), at((1 << 63) + 1))
        self.check((next_above(at(1)), at((1 << 64) + 2)), at((1 << 63) + 2))
        self.check((LEAST_SMALL, at(1)), at(Fraction(1, 2)))
        self.check((minus(LEAST_SMALL), at(1)), at(Fraction(1, 2)))
        self.check((LEAST_SMALL, GREATEST), at(value(GREATEST) / 2))

    def test_near_the_greatest(self):
        self.check((GREATEST, GREATEST), GREATEST)
        self.check((GREATEST - 1, GREATEST), GREATEST - 1)
        self.check((GREATEST - 2, GREATEST), GREATEST - 1)
        self.check((GREATEST - 2, GREATEST - 1), GREATEST - 1)
        self.check((at(1 << 16383), GREATEST), at(3 << 16382))
        self.check((at(1 << 16383), GREATEST - 1), at((3 << 16382) - (1 << 16320)))
        self.check((0, GREATEST), at(value(GREATEST) / 2))

    def test_small(self):
        self.check((LEAST_SMALL, 3), 2)
        self.check((2, 4), 3)
        self.check((2, 3), 2)
        self.check((3, 4), 4)
        self.check((1, 2), 2)
        self.check((minus(1), 4), 2)
        self.check((minus(1), 6), 2)
        self.check((minus(1), 8), 4)
        self.check((0, 7), 4)
        self.check((MINUS_ZERO, 5), 2)
        self.check((GREATEST_SMALL - 1, GREATEST_SMALL), GREATEST_SMALL - 1)
        self.check((GREATEST_SMALL - 2, GREATEST_SMALL), GREATEST_SMALL - 1)

    def test_nearly_small(self):
        self.check((0, 1 << 63), 1 << 62)
        self.check((0, (1 << 63) + 1), 1 << 62)
        self.check((0, (1 << 63) + 3), (1 << 62) + 2)
        self.check((1 << 63, (1 << 63) + 2), LEAST_NORMAL + 1)
        self.check((1 << 63, (1 << 63) + 1), LEAST_NORMAL)
        self.check(((1 << 63) + 1, (1 << 63) + 2), LEAST_NORMAL + 2)
        self.check((0, (1 << 64) - 3), (1 << 63) - 2)

    def test_comes_to_zero(self):
        self.assertEqual(middle(0, LEAST_SMALL), [0, 0])
        self.assertEqual(middle(MINUS_ZERO, LEAST_SMALL), [0, 0])
        self.assertEqual(middle(minus(LEAST_SMALL), 0), [0, 0])
        self.assertEqual(middle(minus(LEAST_SMALL), MINUS_ZERO), [0, 0])
        self.assertEqual(middle(minus(2), LEAST_SMALL), [0, 0])
        self.assertEqual(middle(minus(LEAST_SMALL), 2), [0, 0])
        self.assertEqual(middle(minus(NEARLY_SMALL + 1), SAME_BUT_NORMAL), [0, 0])
        self.check((minus(LEAST_SMALL), 3), LEAST_SMALL)

    def test_the_rounding_carries(self):
        # Into the next power of two, from small to normal, and at the edge where numbers grow twice as far apart.
        self.check((next_below(at(1)), at(1)), at(1))
        self.check((next_below(at(1 << 70)), at(1 << 70)), at(1 << 70))
        self.check((GREATEST_SMALL, LEAST_NORMAL), LEAST_NORMAL)
        self.check((GREATEST_SMALL, 1 << 63), LEAST_NORMAL)
        self.check((0, (1 << 64) - 1), LEAST_NORMAL)
        self.check((minus(LEAST_SMALL), at(2 * value(LEAST_NORMAL))), LEAST_NORMAL)
        self.check((bits_of(0, 1, (1 << 64) - 1), bits_of(0, 2, 1 << 63)), bits_of(0, 2, 1 << 63))


class ManyTest(unittest.TestCase):
    def check(self, x):
        self.assertIsNone(fault_of_width(width(*x), bounds(*x)), told_as(x))
        self.assertIsNone(fault_of_middle(middle(*x), bounds(*x)), told_as(x))

    def test_all_shapes(self):
        for x in SHAPES:
            if x != NONE:
                self.check(x)

    def test_every_interval_of_all_kinds(self):
        for x in intervals_of_all_kinds():
            self.check(x)

    def test_many_intervals(self):
        for x in intervals_of(random.Random(41), 1500):
            self.check(x)

    def test_ends_of_like_size(self):
        source = random.Random(42)
        for _ in range(1500):
            low = bits_of(source.getrandbits(1), source.randrange(0x3FFF, 0x4003), source.getrandbits(63) | 1 << 63)
            exponent = source.randrange(0x3FFF - 66, 0x3FFF + 66)
            high = bits_of(source.getrandbits(1), exponent, source.getrandbits(2) << 61 | 1 << 63)
            self.check(tuple(sorted((low, high), key=value)))

    def test_small_ends(self):
        ends = [bits for size in range(12) for bits in (size, minus(size))]
        for low in ends:
            for high in ends:
                if is_interval(low, high):
                    self.check((low, high))

    def test_the_middle_is_within_a_bounded_interval(self):
        source = random.Random(43)
        numbers = [bits for bits in numbers_of(source, 200) if is_finite(bits)]
        for low in numbers:
            high = source.choice(numbers)
            if is_interval(low, high):
                self.assertTrue(value(low) <= value(middle(low, high)[1]) <= value(high), told_as((low, high)))


class AnswerTest(unittest.TestCase):
    def test_answers_are_lists_of_int_and_stay_the_same(self):
        for x in SHAPES + WRONG:
            self.assertIsNone(fault_of_answer(width, x), told_as(x))
            self.assertIsNone(fault_of_answer(middle, x), told_as(x))


if __name__ == "__main__":
    unittest.main()

"""Tests of betwixt.ends.two and betwixt.ends.one."""

import random
import unittest
from fractions import Fraction

from betwixt.ends import one, two
from oracle import (
    GREATEST, GREATEST_SMALL, LEAST_NORMAL, LEAST_SMALL, MINUS_INFINITE, MINUS_ZERO, PLUS_INFINITE, at, bounds,
    bounds_of_one, bounds_of_two, fault_of_hull, fault_of_root, is_finite, is_interval, minus, next_above, next_below,
    value,
)
from samples import (
    ABOVE, BELOW, LINE, NEARLY_SMALL, NONE, SAME_BUT_NORMAL, SHAPES, THIRD_DOWN, THIRD_UP, WRONG, ZERO,
    fault_of_answer, intervals_of, is_within, numbers_of, pair, part_of, told_as,
)

ADD, SUB, MUL, DIV, MIN, MAX, JOIN, MEET = range(8)
SQRT, SQUARE, ABS, NEG = range(4)


class HullTest(unittest.TestCase):
    """Checks that take the least and the greatest of what's made from the oracle."""

    def check_two(self, op, x, y):
        wanted = bounds_of_two(op, bounds(*x), bounds(*y))
        answer = two(op, *x, *y)
        self.assertIsNone(fault_of_hull(answer, wanted), (op, told_as(x), told_as(y), told_as(answer)))

    def check_one(self, op, x):
        answer = one(op, *x)
        if op == SQRT:
            fault = fault_of_root(answer, bounds(*x))
        else:
            fault = fault_of_hull(answer, bounds_of_one(op, bounds(*x)))
        self.assertIsNone(fault, (op, told_as(x), told_as(answer)))


class ExampleTest(unittest.TestCase):
    """The rows of the document's example."""

    X = pair(1, 2)
    Y = pair(-1, 3)

    def test_two(self):
        self.assertEqual(two(ADD, *self.X, *self.Y), [0, *pair(0, 5)])
        self.assertEqual(two(MUL, *self.X, *self.Y), [0, *pair(-2, 6)])
        self.assertEqual(two(DIV, *self.X, *self.Y), [0, *LINE])
        self.assertEqual(two(DIV, *pair(0, 1), *pair(0, 2)), [0, *ABOVE])
        self.assertEqual(two(DIV, *ZERO, *self.Y), [0, *ZERO])
        self.assertEqual(two(DIV, *self.X, *ZERO), [0, *NONE])

    def test_one(self):
        self.assertEqual(one(SQUARE, *self.Y), [0, *pair(0, 9)])
        self.assertEqual(one(SQRT, *pair(-4, 4)), [0, *pair(0, 2)])


class OrdinaryTest(unittest.TestCase):
    def test_each_op_of_two(self):
        x, y = pair(-3, 5), pair(2, 7)
        wanted = [pair(-1, 12), pair(-10, 3), pair(-21, 35), pair(Fraction(-3, 2), Fraction(5, 2)),
                  pair(-3, 5), pair(2, 7), pair(-3, 7), pair(2, 5)]
        for op in range(8):
            self.assertEqual(two(op, *x, *y), [0, *wanted[op]], op)

    def test_each_op_of_one(self):
        self.assertEqual(one(SQRT, *pair(4, 9)), [0, *pair(2, 3)])
        self.assertEqual(one(SQUARE, *pair(-3, 2)), [0, *pair(0, 9)])
        self.assertEqual(one(SQUARE, *pair(-3, -2)), [0, *pair(4, 9)])
        self.assertEqual(one(ABS, *pair(-3, 2)), [0, *pair(0, 3)])
        self.assertEqual(one(ABS, *pair(-3, -2)), [0, *pair(2, 3)])
        self.assertEqual(one(ABS, *pair(2, 3)), [0, *pair(2, 3)])
        self.assertEqual(one(NEG, *pair(-3, 2)), [0, *pair(-2, 3)])

    def test_apart_and_touching(self):
        self.assertEqual(two(MEET, *pair(1, 2), *pair(3, 4)), [0, *NONE])
        self.assertEqual(two(MEET, *pair(1, 2), *pair(2, 4)), [0, *pair(2, 2)])
        self.assertEqual(two(JOIN, *pair(1, 2), *pair(3, 4)), [0, *pair(1, 4)])
        self.assertEqual(two(MEET, MINUS_ZERO, MINUS_ZERO, 0, 0), [0, *ZERO])
        self.assertEqual(two(MEET, at(-1), MINUS_ZERO, 0, at(1)), [0, *ZERO])


class EmptyTest(unittest.TestCase):
    def test_an_operand_is_empty(self):
        for op in range(8):
            for x in (pair(1, 2), ZERO, LINE, NONE):
                wanted = [0, *(x if op == JOIN else NONE)]
                self.assertEqual(two(op, *NONE, *x), wanted, op)
                self.assertEqual(two(op, *x, *NONE), wanted, op)
        for op in range(4):
            self.assertEqual(one(op, *NONE), [0, *NONE])

    def test_join_with_the_empty_one_is_told(self):
        self.assertEqual(two(JOIN, *NONE, MINUS_ZERO, NEARLY_SMALL), [0, 0, SAME_BUT_NORMAL])
        self.assertEqual(two(JOIN, MINUS_ZERO, NEARLY_SMALL, *NONE), [0, 0, SAME_BUT_NORMAL])


class ZeroTest(unittest.TestCase):
    def test_div_by_zero_inside(self):
        self.assertEqual(two(DIV, *pair(1, 2), *pair(-1, 1)), [0, *LINE])
        self.assertEqual(two(DIV, *pair(-1, 2), *pair(-1, 1)), [0, *LINE])
        self.assertEqual(two(DIV, *pair(0, 1), *pair(-1, 1)), [0, *LINE])
        self.assertEqual(two(DIV, MINUS_ZERO, 0, *LINE), [0, *ZERO])
        self.assertEqual(two(DIV, *LINE, *LINE), [0, *LINE])

    def test_div_by_zero_at_an_end(self):
        for zero in (0, MINUS_ZERO):
            self.assertEqual(two(DIV, *pair(1, 2), zero, at(4)), [0, at(Fraction(1, 4)), PLUS_INFINITE])
            self.assertEqual(two(DIV, *pair(-2, -1), zero, at(4)), [0, MINUS_INFINITE, at(Fraction(-1, 4))])
            self.assertEqual(two(DIV, *pair(1, 2), at(-4), zero), [0, MINUS_INFINITE, at(Fraction(-1, 4))])
            self.assertEqual(two(DIV, *pair(-2, -1), at(-4), zero), [0, at(Fraction(1, 4)), PLUS_INFINITE])
            self.assertEqual(two(DIV, *pair(-1, 1), zero, at(4)), [0, *LINE])
            self.assertEqual(two(DIV, zero, zero, zero, at(4)), [0, *ZERO])
            self.assertEqual(two(DIV, *pair(-1, 0), zero, at(4)), [0, *BELOW])
            self.assertEqual(two(DIV, *pair(1, 2), zero, PLUS_INFINITE), [0, *ABOVE])
            self.assertEqual(two(DIV, *pair(-2, -1), zero, PLUS_INFINITE), [0, *BELOW])

    def test_div_by_zero_alone(self):
        for zeros in (ZERO, (MINUS_ZERO, 0), (MINUS_ZERO, MINUS_ZERO)):
            for x in (pair(1, 2), pair(-1, 1), ZERO, LINE, NONE):
                self.assertEqual(two(DIV, *x, *zeros), [0, *NONE])

    def test_div_with_infinite_ends(self):
        self.assertEqual(two(DIV, *pair(1, 2), at(1), PLUS_INFINITE), [0, *pair(0, 2)])
        self.assertEqual(two(DIV, *pair(-2, -1), at(1), PLUS_INFINITE), [0, *pair(-2, 0)])
        self.assertEqual(two(DIV, *pair(1, 2), MINUS_INFINITE, at(-1)), [0, *pair(-2, 0)])
        self.assertEqual(two(DIV, at(1), PLUS_INFINITE, *pair(2, 4)), [0, at(Fraction(1, 4)), PLUS_INFINITE])
        self.assertEqual(two(DIV, MINUS_INFINITE, at(1), *pair(2, 4)), [0, MINUS_INFINITE, at(Fraction(1, 2))])
        self.assertEqual(two(DIV, at(1), PLUS_INFINITE, at(1), PLUS_INFINITE), [0, *ABOVE])

    def test_mul_of_zero_and_an_unbounded_one(self):
        for x in (LINE, ABOVE, BELOW, (at(1), PLUS_INFINITE)):
            self.assertEqual(two(MUL, *ZERO, *x), [0, *ZERO])
            self.assertEqual(two(MUL, *x, MINUS_ZERO, 0), [0, *ZERO])
        self.assertEqual(two(MUL, *pair(0, 1), *LINE), [0, *LINE])
        self.assertEqual(two(MUL, *pair(0, 1), at(-2), PLUS_INFINITE), [0, at(-2), PLUS_INFINITE])
        self.assertEqual(two(MUL, *ABOVE, *BELOW), [0, *BELOW])

    def test_zeros_are_told_as_plus_zero(self):
        self.assertEqual(two(ADD, MINUS_ZERO, MINUS_ZERO, MINUS_ZERO, MINUS_ZERO), [0, 0, 0])
        self.assertEqual(two(SUB, *pair(1, 1), *pair(1, 1)), [0, 0, 0])
        self.assertEqual(two(MUL, *pair(-1, 0), *pair(0, 1)), [0, at(-1), 0])
        self.assertEqual(two(MIN, at(-1), MINUS_ZERO, *pair(1, 2)), [0, at(-1), 0])
        self.assertEqual(two(MAX, at(-1), MINUS_ZERO, at(-1), MINUS_ZERO), [0, at(-1), 0])
        for op in range(4):
            self.assertEqual(one(op, MINUS_ZERO, MINUS_ZERO), [0, 0, 0])
            self.assertEqual(one(op, 0, 0), [0, 0, 0])
        self.assertEqual(one(NEG, 0, at(1)), [0, at(-1), 0])
        self.assertEqual(one(NEG, at(-1), MINUS_ZERO), [0, 0, at(1)])


class EdgeTest(unittest.TestCase):
    def test_ends_that_are_not_exact(self):
        self.assertEqual(two(DIV, *pair(1, 1), *pair(3, 3)), [0, THIRD_DOWN, THIRD_UP])
        self.assertEqual(two(DIV, *pair(-1, -1), *pair(3, 3)), [0, minus(THIRD_UP), minus(THIRD_DOWN)])
        self.assertEqual(two(DIV, *pair(1, 1), *pair(-3, -3)), [0, minus(THIRD_UP), minus(THIRD_DOWN)])
        self.assertEqual(two(ADD, *pair(1, 1), LEAST_SMALL, LEAST_SMALL), [0, at(1), next_above(at(1))])
        self.assertEqual(two(SUB, *pair(1, 1), LEAST_SMALL, LEAST_SMALL), [0, next_below(at(1)), at(1)])
        self.assertEqual(two(SUB, *pair(-1, -1), LEAST_SMALL, LEAST_SMALL), [0, next_below(at(-1)), at(-1)])

    def test_beyond_the_greatest(self):
        top = (GREATEST, GREATEST)
        low = (minus(GREATEST), minus(GREATEST))
        self.assertEqual(two(ADD, *top, *top), [0, GREATEST, PLUS_INFINITE])
        self.assertEqual(two(ADD, *low, *low), [0, MINUS_INFINITE, minus(GREATEST)])
        self.assertEqual(two(SUB, *low, *top), [0, MINUS_INFINITE, minus(GREATEST)])
        self.assertEqual(two(MUL, *top, *pair(2, 2)), [0, GREATEST, PLUS_INFINITE])
        self.assertEqual(two(MUL, *low, *top), [0, MINUS_INFINITE, minus(GREATEST)])
        self.assertEqual(two(DIV, *top, LEAST_SMALL, LEAST_SMALL), [0, GREATEST, PLUS_INFINITE])
        self.assertEqual(two(ADD, *top, LEAST_SMALL, LEAST_SMALL), [0, GREATEST, PLUS_INFINITE])
        self.assertEqual(one(SQUARE, *low), [0, GREATEST, PLUS_INFINITE])

    def test_below_the_least_small_one(self):
        least = (LEAST_SMALL, LEAST_SMALL)
        below = (minus(LEAST_SMALL), minus(LEAST_SMALL))
        self.assertEqual(two(MUL, *least, *least), [0, 0, LEAST_SMALL])
        self.assertEqual(two(MUL, *least, *below), [0, minus(LEAST_SMALL), 0])
        self.assertEqual(two(DIV, *least, *pair(2, 2)), [0, 0, LEAST_SMALL])
        self.assertEqual(two(DIV, *below, *pair(3, 3)), [0, minus(LEAST_SMALL), 0])
        self.assertEqual(one(SQUARE, *least), [0, 0, LEAST_SMALL])

    def test_small_results(self):
        half = at(Fraction(1, 2))
        self.assertEqual(two(MUL, LEAST_NORMAL, LEAST_NORMAL, half, half), [0, 1 << 62, 1 << 62])
        self.assertEqual(two(MUL, GREATEST_SMALL, GREATEST_SMALL, half, half), [0, (1 << 62) - 1, 1 << 62])
        self.assertEqual(two(ADD, GREATEST_SMALL, GREATEST_SMALL, LEAST_SMALL, LEAST_SMALL),
                         [0, LEAST_NORMAL, LEAST_NORMAL])
        self.assertEqual(two(SUB, LEAST_NORMAL, LEAST_NORMAL, LEAST_SMALL, LEAST_SMALL),
                         [0, GREATEST_SMALL, GREATEST_SMALL])
        below_one = next_below(at(1))
        self.assertEqual(two(MUL, LEAST_NORMAL, LEAST_NORMAL, below_one, below_one), [0, GREATEST_SMALL, LEAST_NORMAL])

    def test_nearly_small_operands(self):
        near = (NEARLY_SMALL, NEARLY_SMALL)
        self.assertEqual(two(ADD, *near, *ZERO), [0, SAME_BUT_NORMAL, SAME_BUT_NORMAL])
        self.assertEqual(two(ADD, *near, *near), [0, SAME_BUT_NORMAL + (1 << 64), SAME_BUT_NORMAL + (1 << 64)])
        self.assertEqual(two(MIN, *near, *pair(1, 1)), [0, SAME_BUT_NORMAL, SAME_BUT_NORMAL])
        self.assertEqual(two(MEET, *near, SAME_BUT_NORMAL, SAME_BUT_NORMAL), [0, SAME_BUT_NORMAL, SAME_BUT_NORMAL])
        self.assertEqual(two(DIV, *near, SAME_BUT_NORMAL, SAME_BUT_NORMAL), [0, at(1), at(1)])
        self.assertEqual(one(NEG, *near), [0, minus(SAME_BUT_NORMAL), minus(SAME_BUT_NORMAL)])
        self.assertEqual(one(ABS, minus(NEARLY_SMALL), LEAST_SMALL), [0, 0, SAME_BUT_NORMAL])

    def test_unbounded(self):
        self.assertEqual(two(ADD, *LINE, *pair(1, 2)), [0, *LINE])
        self.assertEqual(two(ADD, at(1), PLUS_INFINITE, at(2), PLUS_INFINITE), [0, at(3), PLUS_INFINITE])
        self.assertEqual(two(SUB, at(1), PLUS_INFINITE, at(2), PLUS_INFINITE), [0, *LINE])
        self.assertEqual(two(MIN, *LINE, *pair(1, 2)), [0, MINUS_INFINITE, at(2)])
        self.assertEqual(two(MAX, *LINE, *pair(1, 2)), [0, at(1), PLUS_INFINITE])
        self.assertEqual(two(MEET, *LINE, *pair(1, 2)), [0, *pair(1, 2)])
        self.assertEqual(two(JOIN, *ABOVE, *BELOW), [0, *LINE])
        self.assertEqual(two(MEET, *ABOVE, *BELOW), [0, *ZERO])
        self.assertEqual(one(SQUARE, MINUS_INFINITE, at(-2)), [0, at(4), PLUS_INFINITE])
        self.assertEqual(one(ABS, *LINE), [0, *ABOVE])
        self.assertEqual(one(NEG, at(1), PLUS_INFINITE), [0, MINUS_INFINITE, at(-1)])
        self.assertEqual(one(SQRT, *LINE), [0, *ABOVE])


class RootTest(unittest.TestCase):
    def test_exact(self):
        self.assertEqual(one(SQRT, *pair(Fraction(1, 4), 1 << 40)), [0, *pair(Fraction(1, 2), 1 << 20)])
        most = (1 << 32) - 1
        self.assertEqual(one(SQRT, at(most ** 2), at(most ** 2)), [0, at(most), at(most)])

    def test_not_exact(self):
        down = 0x3FFFB504F333F9DE6484
        self.assertEqual(one(SQRT, *pair(2, 2)), [0, down, down + 1])
        self.assertEqual(one(SQRT, *pair(-2, 2)), [0, 0, down + 1])

    def test_below_zero(self):
        self.assertEqual(one(SQRT, *pair(-4, -1)), [0, *NONE])
        self.assertEqual(one(SQRT, MINUS_INFINITE, minus(LEAST_SMALL)), [0, *NONE])
        self.assertEqual(one(SQRT, at(-1), MINUS_ZERO), [0, *ZERO])
        self.assertEqual(one(SQRT, at(-1), 0), [0, *ZERO])

    def test_small_operands(self):
        # The least small one is 2^-16445: its root has a half power of two, twice it has a whole one.
        self.assertEqual(one(SQRT, 2, 2), [0, at(Fraction(1, 1 << 8222)), at(Fraction(1, 1 << 8222))])
        down = at(Fraction(1, 1 << 8223)) & ~0xFFFFFFFFFFFFFFFF | 0xB504F333F9DE6484
        self.assertEqual(one(SQRT, LEAST_SMALL, LEAST_SMALL), [0, down, down + 1])


class RefusalTest(unittest.TestCase):
    def test_no_such_op(self):
        for op in (8, 9, 255, 4294967295):
            self.assertEqual(two(op, *pair(1, 2), *pair(1, 2)), [-1])
            for wrong in WRONG:
                self.assertEqual(two(op, *wrong, *wrong), [-1])
        for op in (4, 8, 4294967295):
            self.assertEqual(one(op, *pair(1, 2)), [-1])
            self.assertEqual(one(op, *pair(2, 1)), [-1])

    def test_no_interval(self):
        for wrong in WRONG:
            for op in range(8):
                self.assertEqual(two(op, *wrong, *pair(1, 2)), [-2])
                self.assertEqual(two(op, *pair(1, 2), *wrong), [-2])
                self.assertEqual(two(op, *wrong, *wrong), [-2])
                self.assertEqual(two(op, *wrong, *NONE), [-2])
                self.assertEqual(two(op, *NONE, *wrong), [-2])
            for op in range(4):
                self.assertEqual(one(op, *wrong), [-2])


class ShapesTest(HullTest):
    def test_two_of_all_shapes(self):
        for op in range(8):
            for x in SHAPES:
                for y in SHAPES:
                    self.check_two(op, x, y)

    def test_one_of_all_shapes(self):
        for op in range(4):
            for x in SHAPES:
                self.check_one(op, x)

    def test_answers_are_lists_of_int_and_stay_the_same(self):
        for x in SHAPES + WRONG:
            for op in range(9):
                self.assertIsNone(fault_of_answer(two, (op, *x, *pair(-1, 3))), (op, told_as(x)))
                self.assertIsNone(fault_of_answer(one, (op, *x)), (op, told_as(x)))


class ManyTest(HullTest):
    def test_two(self):
        operands = intervals_of(random.Random(11), 600)
        for x, y in zip(operands[::2], operands[1::2]):
            for op in range(8):
                self.check_two(op, x, y)

    def test_one(self):
        for x in intervals_of(random.Random(12), 600):
            for op in range(4):
                self.check_one(op, x)

    def test_one_point_operands(self):
        source = random.Random(13)
        numbers = [bits for bits in numbers_of(source, 300) if is_finite(bits)]
        for x, y in zip(numbers[::2], numbers[1::2]):
            for op in range(8):
                self.check_two(op, (x, x), (y, y))
            for op in range(4):
                self.check_one(op, (x, x))

    def test_numbers_of_like_size(self):
        source = random.Random(14)
        for _ in range(400):
            x = sorted(source.getrandbits(64) - (1 << 63) for _ in range(2))
            y = sorted(source.getrandbits(source.choice([2, 20, 63])) - 2 for _ in range(2))
            for op in range(8):
                self.check_two(op, pair(*x), pair(*y))


class PartsTest(unittest.TestCase):
    """What's told of parts is within what's told of the whole, and so is what single numbers make."""

    def test_parts(self):
        source = random.Random(15)
        numbers = numbers_of(source, 200)
        operands = intervals_of(source, 240)
        for x, y in zip(operands[::2], operands[1::2]):
            x_part, y_part = part_of(source, x, numbers), part_of(source, y, numbers)
            if not (is_interval(*x_part) and is_interval(*y_part)):
                continue
            for op in range(8):
                whole = two(op, *x, *y)
                part = two(op, *x_part, *y_part)
                self.assertTrue(is_within(part[1:], whole[1:]), (op, told_as(x + y), told_as(x_part + y_part)))
            for op in range(4):
                self.assertTrue(is_within(one(op, *x_part)[1:], one(op, *x)[1:]), (op, told_as(x), told_as(x_part)))

    def made_of_two(self, op, x, y):
        """What an op makes of a number of X and one of Y."""
        if op == DIV:
            return [x / y] if y else []
        if op == JOIN:
            return [x, y]
        if op == MEET:
            return [x] if x == y else []
        return [[x + y, x - y, x * y, None, min(x, y), max(x, y)][op]]

    def test_single_numbers(self):
        source = random.Random(16)
        numbers = numbers_of(source, 200)
        operands = intervals_of(source, 240)
        for x, y in zip(operands[::2], operands[1::2]):
            points = [(value(p), value(q)) for p in part_of(source, x, numbers)
                      for q in part_of(source, y, numbers)]
            for op in range(8):
                told = two(op, *x, *y)
                for p, q in points:
                    for made in self.made_of_two(op, p, q):
                        self.assertTrue(value(told[1]) <= made <= value(told[2]), (op, told_as(x), told_as(y)))
            for p, q in points:
                for op, made in ((SQUARE, p * p), (ABS, abs(p)), (NEG, -p)):
                    told = one(op, *x)
                    self.assertTrue(value(told[1]) <= made <= value(told[2]), (op, told_as(x)))


if __name__ == "__main__":
    unittest.main()

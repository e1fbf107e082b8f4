"""Tests of betwixt.ends.relate and betwixt.ends.has."""

import random
import unittest
from fractions import Fraction

from betwixt.ends import has, relate
from oracle import (
    ALL_KINDS, EMPTY, GREATEST, GREATEST_SMALL, INFINITE, LEAST_NORMAL, LEAST_SMALL, MINUS_INFINITE, MINUS_ZERO,
    PLUS_INFINITE, at, bits_of, bounds, is_interval, kind, minus, next_above, next_below, value,
)
from samples import (
    ABOVE, BELOW, LINE, NEARLY_SMALL, NONE, SAME_BUT_NORMAL, SHAPES, WRONG, ZERO, fault_of_answer, intervals_of,
    numbers_of, pair, told_as,
)

ALL_LESS, SOME_LESS, ALL_AT_MOST, SOME_AT_MOST, SAME, WITHIN, APART, INNER = range(8)
ODD = bits_of(0, 0x3FFF, 1)
QUIET = bits_of(0, 0x7FFF, 0xC000000000000000)
LOUD = bits_of(0, 0x7FFF, 0x8000000000000001)
NO_NUMBERS = [ODD, QUIET, LOUD, EMPTY, minus(ODD), minus(LOUD), bits_of(0, 0x7FFF, 0), (1 << 80) - 1]


def some_of(x, spots):
    """So many of X's numbers that they tell how X lies to a set whose ends are among the spots."""
    return [] if x is None else [spot for spot in spots if x[0] <= spot <= x[1]]


def spots_of(*sets):
    """Every finite end, a number between each two, one below all and one above all."""
    ends = sorted({end for x in sets if x for end in x if end not in (INFINITE, -INFINITE)} | {Fraction(0)})
    between = [(low + high) / 2 for low, high in zip(ends, ends[1:])]
    return sorted(ends + between + [ends[0] - 1, ends[-1] + 1])


def is_inner(spot, y, ys):
    below = y[0] == -INFINITE or any(other < spot for other in ys)
    above = y[1] == INFINITE or any(other > spot for other in ys)
    return spot in ys and below and above


def related(x, y):
    """The document's words for each op, asked of some numbers of each set."""
    spots = spots_of(x, y)
    xs, ys = some_of(x, spots), some_of(y, spots)
    return [
        all(p < q for p in xs for q in ys),
        any(p < q for p in xs for q in ys),
        all(p <= q for p in xs for q in ys),
        any(p <= q for p in xs for q in ys),
        xs == ys,
        all(p in ys for p in xs),
        not any(p in ys for p in xs),
        all(ys and is_inner(p, y, ys) for p in xs),
    ]


class RelateTest(unittest.TestCase):
    def check(self, x, y, wanted):
        """Wanted is a text of one 1 or 0 for each op."""
        found = [relate(op, *x, *y) for op in range(8)]
        self.assertEqual(found, [[0, int(sign)] for sign in wanted], (told_as(x), told_as(y)))


class RelateExampleTest(unittest.TestCase):
    def test_the_rows_of_the_example(self):
        self.assertEqual(relate(0, *pair(1, 2), *pair(2, 3)), [0, 0])
        self.assertEqual(relate(2, *pair(1, 2), *pair(2, 3)), [0, 1])
        for x in (pair(1, 2), pair(-1, 3), ZERO, LINE, NONE):
            self.assertEqual(relate(0, *NONE, *x), [0, 1])
            self.assertEqual(relate(1, *NONE, *x), [0, 0])


class RelateOrdinaryTest(RelateTest):
    def test_apart(self):
        self.check(pair(1, 2), pair(3, 4), "11110010")
        self.check(pair(3, 4), pair(1, 2), "00000010")
        self.check(pair(-4, -3), pair(-2, -1), "11110010")

    def test_touching(self):
        self.check(pair(1, 2), pair(2, 3), "01110000")
        self.check(pair(2, 3), pair(1, 2), "00010000")

    def test_overlapping(self):
        self.check(pair(1, 3), pair(2, 4), "01010000")
        self.check(pair(2, 4), pair(1, 3), "01010000")

    def test_one_within_the_other(self):
        self.check(pair(2, 3), pair(1, 4), "01010101")
        self.check(pair(1, 4), pair(2, 3), "01010000")
        self.check(pair(1, 3), pair(1, 4), "01010100")
        self.check(pair(2, 4), pair(1, 4), "01010100")
        self.check(pair(1, 4), pair(1, 3), "01010000")
        self.check(pair(1, 4), pair(2, 4), "01010000")

    def test_the_same(self):
        self.check(pair(1, 2), pair(1, 2), "01011100")
        self.check(pair(-2, -1), pair(-2, -1), "01011100")

    def test_one_point(self):
        self.check(pair(1, 1), pair(1, 1), "00111100")
        self.check(pair(1, 1), pair(2, 2), "11110010")
        self.check(pair(2, 2), pair(1, 1), "00000010")
        self.check(pair(1, 1), pair(1, 2), "01110100")
        self.check(pair(2, 2), pair(1, 2), "00010100")
        self.check(pair(1, 2), pair(1, 1), "00010000")
        self.check(pair(1, 2), pair(2, 2), "01110000")
        self.check(pair(2, 2), pair(1, 3), "01010101")
        self.check(pair(1, 3), pair(2, 2), "01010000")

    def test_neighbours(self):
        above = next_above(at(1))
        self.check(pair(1, 1), (above, above), "11110010")
        self.check((next_below(at(1)), above), pair(1, 1), "01010000")
        self.check(pair(1, 1), (next_below(at(1)), above), "01010101")


class RelateUnboundedTest(RelateTest):
    FROM_ONE = (at(1), PLUS_INFINITE)
    TO_ONE = (MINUS_INFINITE, at(1))

    def test_both_sides(self):
        self.check(LINE, LINE, "01011101")
        self.check(pair(1, 2), LINE, "01010101")
        self.check(LINE, pair(1, 2), "01010000")
        self.check(self.FROM_ONE, LINE, "01010101")
        self.check(LINE, self.FROM_ONE, "01010000")
        self.check(self.TO_ONE, LINE, "01010101")
        self.check(LINE, self.TO_ONE, "01010000")

    def test_one_side(self):
        self.check(self.FROM_ONE, self.FROM_ONE, "01011100")
        self.check(self.TO_ONE, self.TO_ONE, "01011100")
        self.check((at(2), PLUS_INFINITE), self.FROM_ONE, "01010101")
        self.check(self.FROM_ONE, (at(2), PLUS_INFINITE), "01010000")
        self.check((MINUS_INFINITE, at(0)), self.TO_ONE, "01010101")
        self.check(self.TO_ONE, (MINUS_INFINITE, at(0)), "01010000")
        self.check(self.TO_ONE, self.FROM_ONE, "01110000")
        self.check(self.FROM_ONE, self.TO_ONE, "00010000")
        self.check((MINUS_INFINITE, at(0)), self.FROM_ONE, "11110010")
        self.check(self.FROM_ONE, (MINUS_INFINITE, at(0)), "00000010")
        self.check((MINUS_INFINITE, at(2)), self.FROM_ONE, "01010000")

    def test_one_side_and_bounded(self):
        self.check(pair(2, 3), self.FROM_ONE, "01010101")
        self.check(pair(1, 3), self.FROM_ONE, "01010100")
        self.check(pair(0, 1), self.FROM_ONE, "01110000")
        self.check(self.FROM_ONE, pair(2, 3), "01010000")
        self.check(self.FROM_ONE, pair(0, 1), "00010000")
        self.check(self.TO_ONE, pair(0, 1), "01010000")
        self.check(pair(0, 1), self.TO_ONE, "01010100")

    def test_an_infinite_end_is_no_number(self):
        greatest = (GREATEST, GREATEST)
        self.check(greatest, (GREATEST, PLUS_INFINITE), "01110100")
        self.check(greatest, (at(1), PLUS_INFINITE), "01010101")
        self.check((GREATEST, PLUS_INFINITE), (at(1), GREATEST), "00010000")
        self.check((minus(GREATEST), GREATEST), LINE, "01010101")
        self.check(LINE, (minus(GREATEST), GREATEST), "01010000")
        self.check((MINUS_INFINITE, minus(GREATEST)), (GREATEST, PLUS_INFINITE), "11110010")


class RelateZeroTest(RelateTest):
    ZEROS = (ZERO, (MINUS_ZERO, 0), (MINUS_ZERO, MINUS_ZERO))

    def test_zeros_have_one_value(self):
        for x in self.ZEROS:
            for y in self.ZEROS:
                self.check(x, y, "00111100")

    def test_zeros_at_ends(self):
        for zero in (0, MINUS_ZERO):
            for other in (0, MINUS_ZERO):
                self.check((at(-1), zero), (other, at(1)), "01110000")
                self.check((zero, at(1)), (at(-1), other), "00010000")
                self.check((zero, at(1)), (other, at(1)), "01011100")
                self.check((at(-1), zero), (at(-1), other), "01011100")
                self.check((zero, at(1)), (other, at(2)), "01010100")
                self.check((at(-1), zero), (at(-2), other), "01010100")
                self.check((zero, PLUS_INFINITE), (MINUS_INFINITE, other), "00010000")

    def test_beside_zero(self):
        for zeros in self.ZEROS:
            self.check(zeros, (LEAST_SMALL, at(1)), "11110010")
            self.check(zeros, (minus(LEAST_SMALL), LEAST_SMALL), "01010101")
            self.check((at(-1), minus(LEAST_SMALL)), zeros, "11110010")

    def test_nearly_small_ends(self):
        near, same = (NEARLY_SMALL, NEARLY_SMALL), (SAME_BUT_NORMAL, SAME_BUT_NORMAL)
        self.check(near, same, "00111100")
        self.check(same, near, "00111100")
        self.check((minus(NEARLY_SMALL), NEARLY_SMALL), (minus(SAME_BUT_NORMAL), SAME_BUT_NORMAL), "01011100")
        self.check((LEAST_SMALL, NEARLY_SMALL), (SAME_BUT_NORMAL, at(1)), "01110000")
        self.check((SAME_BUT_NORMAL, at(1)), (NEARLY_SMALL, at(2)), "01010100")
        self.check(near, (SAME_BUT_NORMAL - 1, NEARLY_SMALL + 1), "01010101")
        self.check((GREATEST_SMALL, GREATEST_SMALL), (1 << 63, LEAST_NORMAL), "11110010")


class RelateEmptyTest(RelateTest):
    def test_empty(self):
        for x in (pair(1, 2), pair(1, 1), ZERO, LINE, ABOVE, BELOW):
            self.check(NONE, x, "10100111")
            self.check(x, NONE, "10100010")
        self.check(NONE, NONE, "10101111")


class RelateRefusalTest(unittest.TestCase):
    def test_no_such_op(self):
        for op in (8, 9, 4294967295):
            for x in [pair(1, 2), NONE] + WRONG:
                self.assertEqual(relate(op, *x, *pair(1, 2)), [-1])
                self.assertEqual(relate(op, *pair(1, 2), *x), [-1])
                self.assertEqual(relate(op, *x, *x), [-1])

    def test_no_interval(self):
        for op in range(8):
            for wrong in WRONG:
                for x in (pair(1, 2), NONE, LINE):
                    self.assertEqual(relate(op, *wrong, *x), [-2])
                    self.assertEqual(relate(op, *x, *wrong), [-2])
                self.assertEqual(relate(op, *wrong, *wrong), [-2])


class RelateManyTest(unittest.TestCase):
    def check(self, x, y):
        wanted = [[0, int(holds)] for holds in related(bounds(*x), bounds(*y))]
        self.assertEqual([relate(op, *x, *y) for op in range(8)], wanted, (told_as(x), told_as(y)))

    def test_all_shapes(self):
        for x in SHAPES:
            for y in SHAPES:
                self.check(x, y)

    def test_few_ends(self):
        ends = [MINUS_INFINITE, at(-1), MINUS_ZERO, 0, at(1), at(2), PLUS_INFINITE]
        intervals = [(low, high) for low in ends for high in ends if is_interval(low, high)] + [NONE]
        for x in intervals:
            for y in intervals:
                self.check(x, y)

    def test_many_intervals(self):
        operands = intervals_of(random.Random(31), 400)
        for x, y in zip(operands[::2], operands[1::2]):
            self.check(x, y)


class HasTest(unittest.TestCase):
    def check(self, x, inside, outside):
        for number in inside:
            self.assertEqual(has(*x, number), [0, 1], (told_as(x), hex(number)))
        for number in outside:
            self.assertEqual(has(*x, number), [0, 0], (told_as(x), hex(number)))

    def test_ordinary_numbers(self):
        self.check(pair(1, 2), [at(1), next_above(at(1)), at(Fraction(3, 2)), next_below(at(2)), at(2)],
                   [at(-1), 0, next_below(at(1)), next_above(at(2)), at(3), GREATEST, minus(GREATEST)])
        self.check(pair(-2, -1), [at(-2), at(Fraction(-3, 2)), at(-1)], [at(-3), at(1), at(2), 0, MINUS_ZERO])
        self.check(pair(-1, 1), [at(-1), 0, MINUS_ZERO, LEAST_SMALL, minus(LEAST_SMALL), at(1)], [at(-2), at(2)])

    def test_one_point(self):
        self.check(pair(1, 1), [at(1)], [next_below(at(1)), next_above(at(1)), at(-1), 0])

    def test_zeros(self):
        zeros = [0, MINUS_ZERO]
        for x in (ZERO, (MINUS_ZERO, 0), (MINUS_ZERO, MINUS_ZERO)):
            self.check(x, zeros, [LEAST_SMALL, minus(LEAST_SMALL), at(1)])
        for zero in zeros:
            self.check((zero, at(1)), zeros + [LEAST_SMALL], [minus(LEAST_SMALL)])
            self.check((at(-1), zero), zeros + [minus(LEAST_SMALL)], [LEAST_SMALL])
        self.check((LEAST_SMALL, at(1)), [LEAST_SMALL], zeros)
        self.check((at(-1), minus(LEAST_SMALL)), [minus(LEAST_SMALL)], zeros)

    def test_small_and_nearly_small_numbers(self):
        near, same = (NEARLY_SMALL, NEARLY_SMALL), (SAME_BUT_NORMAL, SAME_BUT_NORMAL)
        for x in (near, same):
            self.check(x, [NEARLY_SMALL, SAME_BUT_NORMAL],
                       [NEARLY_SMALL - 1, NEARLY_SMALL + 1, SAME_BUT_NORMAL - 1, SAME_BUT_NORMAL + 1,
                        minus(NEARLY_SMALL), GREATEST_SMALL])
        self.check((GREATEST_SMALL, LEAST_NORMAL), [GREATEST_SMALL, 1 << 63, LEAST_NORMAL],
                   [GREATEST_SMALL - 1, (1 << 63) + 1, LEAST_NORMAL + 1])
        self.check((minus(1 << 63), minus(GREATEST_SMALL)), [minus(LEAST_NORMAL), minus(1 << 63)],
                   [minus(LEAST_NORMAL + 1), minus((1 << 63) + 1), minus(GREATEST_SMALL - 1)])

    def test_infinite_numbers(self):
        both = [PLUS_INFINITE, MINUS_INFINITE]
        self.check(LINE, [0, GREATEST, minus(GREATEST)], both)
        self.check((at(1), PLUS_INFINITE), [at(1), GREATEST], both + [0])
        self.check((MINUS_INFINITE, at(1)), [at(1), minus(GREATEST)], both + [at(2)])
        self.check(pair(1, 2), [], both)

    def test_empty(self):
        self.check(NONE, [], [0, MINUS_ZERO, at(1), at(-1), LEAST_SMALL, NEARLY_SMALL, PLUS_INFINITE, MINUS_INFINITE])

    def test_no_number(self):
        for number in NO_NUMBERS:
            for x in [pair(1, 2), LINE, NONE] + WRONG:
                self.assertEqual(has(*x, number), [-2], (told_as(x), hex(number)))

    def test_no_interval(self):
        for wrong in WRONG:
            for number in (0, at(1), PLUS_INFINITE, MINUS_INFINITE):
                self.assertEqual(has(*wrong, number), [-2], (told_as(wrong), hex(number)))


class HasManyTest(unittest.TestCase):
    def check(self, x, number):
        if kind(number) in ("odd", "quiet", "loud"):
            wanted = [-2]
        elif x == NONE or kind(number) == "infinite":
            wanted = [0, 0]
        else:
            wanted = [0, int(value(x[0]) <= value(number) <= value(x[1]))]
        self.assertEqual(has(*x, number), wanted, (told_as(x), hex(number)))

    def test_all_shapes(self):
        for x in SHAPES:
            for number in ALL_KINDS + [end for end in x]:
                self.check(x, number)

    def test_many_intervals(self):
        source = random.Random(32)
        numbers = numbers_of(source, 200)
        for x in intervals_of(source, 200):
            for number in numbers[:60] + source.sample(numbers, 20):
                self.check(x, number)


class AnswerTest(unittest.TestCase):
    def test_answers_are_lists_of_int_and_stay_the_same(self):
        calls = [(relate, (op, *x, *y)) for op in range(9) for x in SHAPES + WRONG for y in (pair(1, 2), LINE, NONE)]
        calls += [(has, (*x, number)) for x in SHAPES + WRONG for number in (0, at(1), PLUS_INFINITE, QUIET)]
        for call, given in calls:
            self.assertIsNone(fault_of_answer(call, given), given)


if __name__ == "__main__":
    unittest.main()

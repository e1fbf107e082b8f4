"""Tests of betwixt.ends.power and betwixt.ends.div2."""

import random
import unittest
from fractions import Fraction

from betwixt.ends import div2, power, two
from oracle import (
    EMPTY, GREATEST, GREATEST_SMALL, LEAST_NORMAL, LEAST_SMALL, MINUS_INFINITE, MINUS_ZERO, PLUS_INFINITE, at, bits_of,
    bounds, bounds_of_div2, bounds_of_power, fault_of_hull, is_interval, minus, next_above, next_below, value,
)
from samples import (
    ABOVE, BELOW, LINE, NEARLY_SMALL, NONE, SAME_BUT_NORMAL, SHAPES, THIRD_DOWN, THIRD_UP, WRONG, ZERO,
    fault_of_answer, intervals_of, is_within, numbers_of, pair, part_of, told_as,
)

DIV = 3
POWERS = [0, 1, 2, 3, -1, -2, -3, 63, 64, -63, -64]
NO_POWERS = [-65, 65, -66, 66, 128, -2147483648, 2147483647]
ZEROS = (ZERO, (MINUS_ZERO, 0), (MINUS_ZERO, MINUS_ZERO))
NINTH_DOWN = 0x3FFBE38E38E38E38E38E
NINTH_UP = 0x3FFBE38E38E38E38E38F


def half_to(n):
    return Fraction(1, 1 << n)


class PowerTest(unittest.TestCase):
    """Checks of power against rows of (n, lower end, upper end)."""

    def check_rows(self, x, rows):
        for n, low, high in rows:
            self.assertEqual(power(*x, n), [0, low, high], (n, told_as(x)))


class PowerExampleTest(PowerTest):
    def test_the_row_of_the_example(self):
        self.check_rows(pair(-1, 0), [(-1, MINUS_INFINITE, at(-1))])


class PowerOrdinaryTest(PowerTest):
    def test_above_zero(self):
        self.check_rows(pair(2, 4), [
            (0, at(1), at(1)), (1, at(2), at(4)), (2, at(4), at(16)), (3, at(8), at(64)),
            (-1, at(half_to(2)), at(half_to(1))), (-2, at(half_to(4)), at(half_to(2))),
            (-3, at(half_to(6)), at(half_to(3))), (63, at(1 << 63), at(1 << 126)), (64, at(1 << 64), at(1 << 128)),
            (-63, at(half_to(126)), at(half_to(63))), (-64, at(half_to(128)), at(half_to(64))),
        ])

    def test_below_zero(self):
        self.check_rows(pair(-4, -2), [
            (0, at(1), at(1)), (1, at(-4), at(-2)), (2, at(4), at(16)), (3, at(-64), at(-8)),
            (-1, at(-half_to(1)), at(-half_to(2))), (-2, at(half_to(4)), at(half_to(2))),
            (-3, at(-half_to(3)), at(-half_to(6))), (63, at(-1 << 126), at(-1 << 63)), (64, at(1 << 64), at(1 << 128)),
            (-63, at(-half_to(63)), at(-half_to(126))), (-64, at(half_to(128)), at(half_to(64))),
        ])

    def test_zero_inside(self):
        self.check_rows(pair(-2, 4), [
            (0, at(1), at(1)), (1, at(-2), at(4)), (2, 0, at(16)), (3, at(-8), at(64)), (64, 0, at(1 << 128)),
            (63, at(-1 << 63), at(1 << 126)), (-1, *LINE), (-3, *LINE), (-63, *LINE),
            (-2, at(half_to(4)), PLUS_INFINITE), (-64, at(half_to(128)), PLUS_INFINITE),
        ])
        self.check_rows(pair(-4, 2), [
            (2, 0, at(16)), (3, at(-64), at(8)), (-1, *LINE), (-2, at(half_to(4)), PLUS_INFINITE),
        ])

    def test_one_point(self):
        self.check_rows(pair(3, 3), [
            (0, at(1), at(1)), (1, at(3), at(3)), (2, at(9), at(9)), (3, at(27), at(27)),
            (40, at(3 ** 40), at(3 ** 40)), (-1, THIRD_DOWN, THIRD_UP), (-2, NINTH_DOWN, NINTH_UP),
        ])
        self.check_rows(pair(-3, -3), [
            (0, at(1), at(1)), (1, at(-3), at(-3)), (2, at(9), at(9)), (3, at(-27), at(-27)),
            (-1, minus(THIRD_UP), minus(THIRD_DOWN)), (-2, NINTH_DOWN, NINTH_UP),
        ])
        for n in POWERS:
            self.assertEqual(power(at(1), at(1), n), [0, at(1), at(1)])
            self.assertEqual(power(at(-1), at(-1), n), [0, *(pair(-1, -1) if n % 2 else pair(1, 1))])


class PowerZeroTest(PowerTest):
    def test_zero_alone(self):
        for zeros in ZEROS:
            self.check_rows(zeros, [(0, at(1), at(1)), (1, 0, 0), (2, 0, 0), (3, 0, 0), (63, 0, 0), (64, 0, 0)])
            self.check_rows(zeros, [(n, *NONE) for n in POWERS if n < 0])

    def test_zero_at_the_lower_end(self):
        for zero in (0, MINUS_ZERO):
            self.check_rows((zero, at(2)), [
                (0, at(1), at(1)), (1, 0, at(2)), (2, 0, at(4)), (3, 0, at(8)), (63, 0, at(1 << 63)),
                (64, 0, at(1 << 64)), (-1, at(half_to(1)), PLUS_INFINITE), (-2, at(half_to(2)), PLUS_INFINITE),
                (-3, at(half_to(3)), PLUS_INFINITE), (-63, at(half_to(63)), PLUS_INFINITE),
                (-64, at(half_to(64)), PLUS_INFINITE),
            ])

    def test_zero_at_the_upper_end(self):
        for zero in (0, MINUS_ZERO):
            self.check_rows((at(-2), zero), [
                (0, at(1), at(1)), (1, at(-2), 0), (2, 0, at(4)), (3, at(-8), 0), (63, at(-1 << 63), 0),
                (64, 0, at(1 << 64)), (-1, MINUS_INFINITE, at(-half_to(1))), (-2, at(half_to(2)), PLUS_INFINITE),
                (-3, MINUS_INFINITE, at(-half_to(3))), (-63, MINUS_INFINITE, at(-half_to(63))),
                (-64, at(half_to(64)), PLUS_INFINITE),
            ])

    def test_empty(self):
        self.check_rows(NONE, [(n, *NONE) for n in POWERS])


class PowerUnboundedTest(PowerTest):
    def test_above(self):
        self.check_rows((at(2), PLUS_INFINITE), [
            (0, at(1), at(1)), (1, at(2), PLUS_INFINITE), (2, at(4), PLUS_INFINITE), (3, at(8), PLUS_INFINITE),
            (-1, 0, at(half_to(1))), (-2, 0, at(half_to(2))), (-3, 0, at(half_to(3))), (-64, 0, at(half_to(64))),
        ])
        self.check_rows((at(-2), PLUS_INFINITE), [
            (0, at(1), at(1)), (1, at(-2), PLUS_INFINITE), (2, *ABOVE), (3, at(-8), PLUS_INFINITE),
            (-1, *LINE), (-2, *ABOVE), (-3, *LINE),
        ])
        for zero in (0, MINUS_ZERO):
            self.check_rows((zero, PLUS_INFINITE), [(n, *ABOVE) for n in POWERS if n != 0])

    def test_below(self):
        self.check_rows((MINUS_INFINITE, at(-2)), [
            (0, at(1), at(1)), (1, MINUS_INFINITE, at(-2)), (2, at(4), PLUS_INFINITE), (3, MINUS_INFINITE, at(-8)),
            (-1, at(-half_to(1)), 0), (-2, 0, at(half_to(2))), (-3, at(-half_to(3)), 0), (-64, 0, at(half_to(64))),
        ])
        self.check_rows((MINUS_INFINITE, at(2)), [
            (0, at(1), at(1)), (1, MINUS_INFINITE, at(2)), (2, *ABOVE), (3, MINUS_INFINITE, at(8)),
            (-1, *LINE), (-2, *ABOVE), (-3, *LINE),
        ])
        for zero in (0, MINUS_ZERO):
            self.check_rows((MINUS_INFINITE, zero), [(n, *(BELOW if n % 2 else ABOVE)) for n in POWERS if n != 0])

    def test_the_whole_line(self):
        self.check_rows(LINE, [(n, *(LINE if n % 2 else ABOVE)) for n in POWERS if n != 0])
        self.check_rows(LINE, [(0, at(1), at(1))])


class PowerEdgeTest(PowerTest):
    def test_not_exact(self):
        root = next_above(at(1))
        # The square is 1 + 2^-62 + 2^-126.
        self.check_rows((root, root), [(2, root + 1, root + 2), (-1, next_below(next_below(at(1))), next_below(at(1)))])
        self.check_rows((minus(root), minus(root)), [
            (2, root + 1, root + 2), (3, minus(root + 3), minus(root + 2)),
            (-1, minus(next_below(at(1))), minus(next_below(next_below(at(1))))),
        ])

    def test_beyond_the_greatest(self):
        top = (GREATEST, GREATEST)
        low = (minus(GREATEST), minus(GREATEST))
        self.check_rows(top, [(1, *top), (2, GREATEST, PLUS_INFINITE), (64, GREATEST, PLUS_INFINITE)])
        self.check_rows(low, [(1, *low), (2, GREATEST, PLUS_INFINITE), (3, MINUS_INFINITE, minus(GREATEST))])
        self.check_rows((at(2), GREATEST), [(2, at(4), PLUS_INFINITE), (3, at(8), PLUS_INFINITE)])
        self.check_rows((minus(GREATEST), at(2)), [(2, *ABOVE), (3, MINUS_INFINITE, at(8))])
        self.check_rows((LEAST_SMALL, LEAST_SMALL), [(n, GREATEST, PLUS_INFINITE) for n in (-1, -2, -64)])
        self.check_rows((minus(LEAST_SMALL), minus(LEAST_SMALL)), [
            (-1, MINUS_INFINITE, minus(GREATEST)), (-2, GREATEST, PLUS_INFINITE),
            (-63, MINUS_INFINITE, minus(GREATEST)),
        ])
        # 2^256 to the power of 64 is the first that's beyond; 2^255 isn't.
        self.check_rows(pair(1 << 256, 1 << 256), [(63, at(1 << 16128), at(1 << 16128)), (64, GREATEST, PLUS_INFINITE)])
        self.check_rows(pair(1 << 255, 1 << 255), [(64, at(1 << 16320), at(1 << 16320))])

    def test_below_the_least_small_one(self):
        least = (LEAST_SMALL, LEAST_SMALL)
        below = (minus(LEAST_SMALL), minus(LEAST_SMALL))
        self.check_rows(least, [(1, *least), (2, 0, LEAST_SMALL), (64, 0, LEAST_SMALL)])
        self.check_rows(below, [(1, *below), (2, 0, LEAST_SMALL), (3, minus(LEAST_SMALL), 0)])
        self.check_rows((GREATEST, GREATEST), [(n, 0, LEAST_SMALL) for n in (-2, -3, -64)])
        self.check_rows((minus(GREATEST), minus(GREATEST)), [
            (-2, 0, LEAST_SMALL), (-3, minus(LEAST_SMALL), 0), (-63, minus(LEAST_SMALL), 0), (-64, 0, LEAST_SMALL),
        ])
        self.check_rows((GREATEST, PLUS_INFINITE), [(-2, 0, LEAST_SMALL)])

    def test_small_results(self):
        self.check_rows((GREATEST, GREATEST), [(-1, 1 << 61, (1 << 61) + 1)])
        least = at(half_to(16445))
        self.assertEqual(least, LEAST_SMALL)
        self.check_rows(pair(1 << 299, 1 << 299), [(-55, least, least)])
        self.check_rows(pair(half_to(299), half_to(299)), [(55, least, least)])
        # 2^-16384 is small: a quarter of the least normal one.
        self.check_rows(pair(half_to(256), half_to(256)), [(64, 1 << 61, 1 << 61)])
        self.check_rows(pair(-1 << 256, -1 << 256), [(-64, 1 << 61, 1 << 61)])

    def test_small_and_nearly_small_operands(self):
        near = (NEARLY_SMALL, NEARLY_SMALL)
        two_thirds = bits_of(0, 0x3FFF + 16381, 0xAAAAAAAAAAAAAAAA)
        self.check_rows(near, [(1, SAME_BUT_NORMAL, SAME_BUT_NORMAL), (-1, two_thirds, two_thirds + 1)])
        self.check_rows((minus(NEARLY_SMALL), NEARLY_SMALL), [
            (1, minus(SAME_BUT_NORMAL), SAME_BUT_NORMAL), (2, 0, LEAST_SMALL), (3, minus(LEAST_SMALL), LEAST_SMALL),
            (-1, *LINE), (-2, GREATEST, PLUS_INFINITE),
        ])
        self.check_rows((1 << 63, 1 << 63), [(1, LEAST_NORMAL, LEAST_NORMAL), (-1, at(1 << 16382), at(1 << 16382))])
        self.check_rows((1 << 61, 1 << 61), [(-1, GREATEST, PLUS_INFINITE)])
        self.check_rows((1 << 62, 1 << 62), [(-1, at(1 << 16383), at(1 << 16383))])
        # One over 1 - 2^-63 is a little more than 1 + 2^-63.
        above = next_above(at(1 << 16382))
        self.check_rows((GREATEST_SMALL, GREATEST_SMALL), [(-1, above, next_above(above))])


class PowerRefusalTest(unittest.TestCase):
    def test_no_such_n(self):
        for n in NO_POWERS:
            for x in [pair(1, 2), ZERO, LINE, NONE] + WRONG:
                self.assertEqual(power(*x, n), [-1], (n, told_as(x)))

    def test_no_interval(self):
        for n in POWERS:
            for wrong in WRONG:
                self.assertEqual(power(*wrong, n), [-2], (n, told_as(wrong)))


class PowerManyTest(unittest.TestCase):
    def check(self, n, x):
        answer = power(*x, n)
        self.assertIsNone(fault_of_hull(answer, bounds_of_power(n, bounds(*x))), (n, told_as(x), told_as(answer)))

    def test_all_shapes(self):
        for n in POWERS + [4, 5, -4, -5, 31, 32]:
            for x in SHAPES:
                self.check(n, x)

    def test_every_n(self):
        for n in range(-64, 65):
            for x in (pair(2, 3), pair(-3, -2), pair(-2, 3), pair(0, 3), (THIRD_DOWN, THIRD_UP)):
                self.check(n, x)

    def test_many_intervals(self):
        source = random.Random(21)
        for x in intervals_of(source, 300):
            for n in (source.randrange(2, 6), source.randrange(-5, 0), source.randrange(-64, 65)):
                self.check(n, x)

    def test_numbers_whose_powers_are_not_beyond(self):
        source = random.Random(22)
        for _ in range(400):
            size = bits_of(0, 0x3FFF + source.randrange(-260, 260), 1 << 63 | source.getrandbits(63))
            other = source.choice([size, next_above(size), minus(size), at(source.choice([-3, 0, 5]))])
            x = sorted([size, other], key=value)
            self.check(source.randrange(-64, 65), x)

    def test_exact_results(self):
        for size in (5, 7, 13, 255, 65535):
            n = 1
            while size ** n < 1 << 64:
                self.assertEqual(power(at(size), at(size), n), [0, at(size ** n), at(size ** n)])
                sign = -1 if n % 2 else 1
                self.assertEqual(power(at(-size), at(-size), n), [0, at(sign * size ** n), at(sign * size ** n)])
                n += 1

    def test_parts_and_single_numbers(self):
        source = random.Random(23)
        numbers = numbers_of(source, 200)
        for x in intervals_of(source, 120):
            part = part_of(source, x, numbers)
            if not is_interval(*part):
                continue
            for n in (0, 1, 2, 3, -1, -2, -3, 9, -10):
                told = power(*x, n)[1:]
                self.assertTrue(is_within(power(*part, n)[1:], told), (n, told_as(x), told_as(part)))
                for number in part:
                    if value(number) != 0 or n >= 0:
                        self.assertTrue(value(told[0]) <= value(number) ** n <= value(told[1]), (n, told_as(x)))


class Div2ExampleTest(unittest.TestCase):
    def test_the_rows_of_the_example(self):
        y = pair(-1, 3)
        self.assertEqual(div2(*pair(1, 2), *y), [0, 2, MINUS_INFINITE, at(-1), 0x3FFDAAAAAAAAAAAAAAAA, PLUS_INFINITE])
        self.assertEqual(div2(*pair(0, 1), *pair(0, 2)), [0, 1, *ABOVE])
        self.assertEqual(div2(*ZERO, *y), [0, 1, *ZERO])
        self.assertEqual(div2(*pair(1, 2), *ZERO), [0, 0])


class Div2Test(unittest.TestCase):
    AROUND = [pair(-1, 3), pair(-2, 2), LINE, (MINUS_INFINITE, at(1)), (at(-1), PLUS_INFINITE),
              (minus(LEAST_SMALL), LEAST_SMALL)]

    def test_two_sets(self):
        self.assertEqual(div2(*pair(1, 2), *pair(-4, 2)), [0, 2, MINUS_INFINITE, at(-half_to(2)), at(half_to(1)),
                                                           PLUS_INFINITE])
        self.assertEqual(div2(*pair(-2, -1), *pair(-4, 2)), [0, 2, MINUS_INFINITE, at(-half_to(1)), at(half_to(2)),
                                                             PLUS_INFINITE])
        self.assertEqual(div2(*pair(1, 1), *pair(-3, 3)), [0, 2, MINUS_INFINITE, minus(THIRD_DOWN), THIRD_DOWN,
                                                           PLUS_INFINITE])
        self.assertEqual(div2(*pair(-1, -1), *pair(-3, 9)), [0, 2, MINUS_INFINITE, minus(NINTH_DOWN), THIRD_DOWN,
                                                             PLUS_INFINITE])

    def test_two_sets_of_unbounded_ones(self):
        self.assertEqual(div2(*pair(1, 2), *LINE), [0, 2, *BELOW, *ABOVE])
        self.assertEqual(div2(*pair(-2, -1), *LINE), [0, 2, *BELOW, *ABOVE])
        self.assertEqual(div2(*pair(1, 2), at(-2), PLUS_INFINITE), [0, 2, MINUS_INFINITE, at(-half_to(1)), *ABOVE])
        self.assertEqual(div2(*pair(-2, -1), at(-2), PLUS_INFINITE), [0, 2, *BELOW, at(half_to(1)), PLUS_INFINITE])
        self.assertEqual(div2(*pair(1, 2), MINUS_INFINITE, at(2)), [0, 2, *BELOW, at(half_to(1)), PLUS_INFINITE])
        self.assertEqual(div2(at(1), PLUS_INFINITE, *pair(-4, 2)), [0, 2, MINUS_INFINITE, at(-half_to(2)),
                                                                    at(half_to(1)), PLUS_INFINITE])
        self.assertEqual(div2(MINUS_INFINITE, at(-1), *pair(-4, 2)), [0, 2, MINUS_INFINITE, at(-half_to(1)),
                                                                      at(half_to(2)), PLUS_INFINITE])

    def test_two_sets_at_the_edges(self):
        least = (LEAST_SMALL, LEAST_SMALL)
        around = (minus(GREATEST), GREATEST)
        self.assertEqual(div2(*least, *around), [0, 2, *BELOW, *ABOVE])
        self.assertEqual(div2(*least, *pair(-2, 1)), [0, 2, *BELOW, LEAST_SMALL, PLUS_INFINITE])
        self.assertEqual(div2(GREATEST, GREATEST, minus(LEAST_SMALL), LEAST_SMALL),
                         [0, 2, MINUS_INFINITE, minus(GREATEST), GREATEST, PLUS_INFINITE])
        self.assertEqual(div2(NEARLY_SMALL, NEARLY_SMALL, *pair(-1, 1)),
                         [0, 2, MINUS_INFINITE, minus(SAME_BUT_NORMAL), SAME_BUT_NORMAL, PLUS_INFINITE])
        self.assertEqual(div2(*pair(1, 1), minus(NEARLY_SMALL), 1 << 63),
                         [0, 2, MINUS_INFINITE, minus(bits_of(0, 0x3FFF + 16381, 0xAAAAAAAAAAAAAAAA)),
                          at(1 << 16382), PLUS_INFINITE])
        # The least small ones are on both sides of 0, and no less apart than any others.
        self.assertEqual(div2(minus(LEAST_SMALL), minus(LEAST_SMALL), minus(LEAST_SMALL), LEAST_SMALL),
                         [0, 2, MINUS_INFINITE, at(-1), at(1), PLUS_INFINITE])

    def test_one_set_where_the_first_has_zero(self):
        for y in self.AROUND:
            for zeros in ZEROS:
                self.assertEqual(div2(*zeros, *y), [0, 1, *ZERO])
            for x in (pair(-1, 1), pair(0, 1), pair(-1, 0), (MINUS_ZERO, at(1)), (at(-1), MINUS_ZERO), LINE, ABOVE,
                      BELOW, (0, LEAST_SMALL), (minus(LEAST_SMALL), MINUS_ZERO)):
                self.assertEqual(div2(*x, *y), [0, 1, *LINE], (told_as(x), told_as(y)))

    def test_one_set_where_zero_is_at_an_end_of_the_second(self):
        for zero in (0, MINUS_ZERO):
            self.assertEqual(div2(*pair(1, 2), zero, at(4)), [0, 1, at(half_to(2)), PLUS_INFINITE])
            self.assertEqual(div2(*pair(1, 2), at(-4), zero), [0, 1, MINUS_INFINITE, at(-half_to(2))])
            self.assertEqual(div2(*pair(-2, -1), zero, at(4)), [0, 1, MINUS_INFINITE, at(-half_to(2))])
            self.assertEqual(div2(*pair(-2, -1), at(-4), zero), [0, 1, at(half_to(2)), PLUS_INFINITE])
            self.assertEqual(div2(*pair(1, 2), zero, PLUS_INFINITE), [0, 1, *ABOVE])
            self.assertEqual(div2(*pair(-1, 1), zero, at(4)), [0, 1, *LINE])

    def test_one_set_without_zero_in_the_second(self):
        self.assertEqual(div2(*pair(1, 2), *pair(2, 4)), [0, 1, at(half_to(2)), at(1)])
        self.assertEqual(div2(*pair(1, 2), *pair(-4, -2)), [0, 1, at(-1), at(-half_to(2))])
        self.assertEqual(div2(*pair(1, 1), *pair(3, 3)), [0, 1, THIRD_DOWN, THIRD_UP])
        self.assertEqual(div2(*LINE, *pair(2, 4)), [0, 1, *LINE])

    def test_none(self):
        for x in (pair(1, 2), pair(-2, -1), pair(-1, 1), ZERO, LINE, NONE):
            for zeros in ZEROS:
                self.assertEqual(div2(*x, *zeros), [0, 0])
            self.assertEqual(div2(*x, *NONE), [0, 0])
            self.assertEqual(div2(*NONE, *x), [0, 0])

    def test_no_interval(self):
        for wrong in WRONG:
            for x in (pair(1, 2), ZERO, NONE):
                self.assertEqual(div2(*wrong, *x), [-2])
                self.assertEqual(div2(*x, *wrong), [-2])
            self.assertEqual(div2(*wrong, *wrong), [-2])


class Div2ManyTest(unittest.TestCase):
    def check(self, x, y):
        answer = div2(*x, *y)
        wanted = bounds_of_div2(bounds(*x), bounds(*y))
        said = (told_as(x), told_as(y), told_as(answer))
        self.assertEqual(answer[:2], [0, len(wanted)], said)
        self.assertEqual(len(answer), 2 + 2 * len(wanted), said)
        for place, part in enumerate(wanted):
            self.assertIsNone(fault_of_hull([0] + answer[2 + 2 * place:4 + 2 * place], part), said)
        told = two(DIV, *x, *y)
        if len(wanted) < 2:
            self.assertEqual(answer[2:], [] if told[1] == EMPTY else told[1:], said)
        else:
            self.assertEqual(told, [0, *LINE], said)

    def test_all_shapes(self):
        for x in SHAPES:
            for y in SHAPES:
                self.check(x, y)

    def test_many_intervals(self):
        operands = intervals_of(random.Random(24), 800)
        for x, y in zip(operands[::2], operands[1::2]):
            self.check(x, y)

    def test_parts_and_single_numbers(self):
        source = random.Random(25)
        numbers = numbers_of(source, 200)
        operands = intervals_of(source, 400)
        for x, y in zip(operands[::2], operands[1::2]):
            told = self.sets(div2(*x, *y))
            x_part, y_part = part_of(source, x, numbers), part_of(source, y, numbers)
            if is_interval(*x_part) and is_interval(*y_part):
                for part in self.sets(div2(*x_part, *y_part)):
                    self.assertTrue(any(is_within(part, whole) for whole in told), told_as(x + y))
            for p in x_part:
                for q in y_part:
                    if value(q) != 0:
                        made = value(p) / value(q)
                        self.assertTrue(any(value(low) <= made <= value(high) for low, high in told), told_as(x + y))

    def sets(self, answer):
        return list(zip(answer[2::2], answer[3::2]))


class AnswerTest(unittest.TestCase):
    def test_answers_are_lists_of_int_and_stay_the_same(self):
        calls = [(power, (*x, n)) for x in SHAPES + WRONG for n in (0, 2, 3, -2, -3, 65)]
        calls += [(div2, (*x, *y)) for x in SHAPES + WRONG for y in (pair(-1, 3), pair(0, 2), ZERO, NONE)]
        for call, given in calls:
            self.assertIsNone(fault_of_answer(call, given), given)


if __name__ == "__main__":
    unittest.main()

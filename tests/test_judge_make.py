"""Tests of betwixt.ends.judge and betwixt.ends.make."""

import unittest

from betwixt.ends import judge, make
from oracle import (
    ALL_KINDS, EMPTY, GREATEST, GREATEST_SMALL, LAST_BITS, LEAST_NORMAL, LEAST_SMALL, MINUS_INFINITE, MINUS_ZERO,
    PLUS_INFINITE, at, bits_of, is_interval, kind, minus, value,
)
from samples import NEARLY_SMALL, SAME_BUT_NORMAL, fault_of_answer

ODD = bits_of(0, 0x3FFF, 1)
ODD_AT_THE_TOP = bits_of(0, 0x7FFF, 0)
QUIET = bits_of(0, 0x7FFF, 0xC000000000000000)
LOUD = bits_of(0, 0x7FFF, 0x8000000000000001)
NO_NUMBERS = [ODD, ODD_AT_THE_TOP, QUIET, LOUD, minus(ODD), minus(ODD_AT_THE_TOP), minus(LOUD), LAST_BITS]


def told(bits):
    return at(value(bits))


class JudgeTest(unittest.TestCase):
    def test_ordinary_pairs(self):
        self.assertEqual(judge(at(1), at(2)), [0, 1])
        self.assertEqual(judge(at(-2), at(-1)), [0, 1])
        self.assertEqual(judge(at(-1), at(3)), [0, 1])
        self.assertEqual(judge(0x3FFF8000000000000000, 0x40008000000000000000), [0, 1])

    def test_one_point(self):
        for bits in (at(1), at(-1), 0, MINUS_ZERO, GREATEST, minus(GREATEST), LEAST_SMALL, NEARLY_SMALL):
            self.assertEqual(judge(bits, bits), [0, 1])

    def test_empty(self):
        self.assertEqual(judge(EMPTY, EMPTY), [0, 0])

    def test_empty_at_one_end_alone(self):
        for bits in (at(1), 0, MINUS_ZERO, MINUS_INFINITE, PLUS_INFINITE, QUIET, LAST_BITS):
            self.assertEqual(judge(EMPTY, bits), [-2])
            self.assertEqual(judge(bits, EMPTY), [-2])

    def test_lower_end_above_the_upper_one(self):
        self.assertEqual(judge(at(2), at(1)), [-2])
        self.assertEqual(judge(at(-1), at(-2)), [-2])
        self.assertEqual(judge(at(1), at(-1)), [-2])
        self.assertEqual(judge(LEAST_SMALL, 0), [-2])
        self.assertEqual(judge(0, minus(LEAST_SMALL)), [-2])

    def test_zeros(self):
        self.assertEqual(judge(0, 0), [0, 1])
        self.assertEqual(judge(MINUS_ZERO, MINUS_ZERO), [0, 1])
        self.assertEqual(judge(MINUS_ZERO, 0), [0, 1])
        self.assertEqual(judge(0, MINUS_ZERO), [-2])

    def test_infinite_ends(self):
        self.assertEqual(judge(MINUS_INFINITE, PLUS_INFINITE), [0, 1])
        self.assertEqual(judge(MINUS_INFINITE, at(1)), [0, 1])
        self.assertEqual(judge(at(1), PLUS_INFINITE), [0, 1])
        self.assertEqual(judge(MINUS_INFINITE, minus(GREATEST)), [0, 1])
        self.assertEqual(judge(GREATEST, PLUS_INFINITE), [0, 1])
        for low, high in ((PLUS_INFINITE, PLUS_INFINITE), (MINUS_INFINITE, MINUS_INFINITE),
                          (PLUS_INFINITE, MINUS_INFINITE), (PLUS_INFINITE, at(1)), (at(1), MINUS_INFINITE)):
            self.assertEqual(judge(low, high), [-2])

    def test_small_ends(self):
        self.assertEqual(judge(LEAST_SMALL, GREATEST_SMALL), [0, 1])
        self.assertEqual(judge(GREATEST_SMALL, LEAST_NORMAL), [0, 1])
        self.assertEqual(judge(LEAST_NORMAL, GREATEST_SMALL), [-2])
        self.assertEqual(judge(minus(GREATEST_SMALL), minus(LEAST_SMALL)), [0, 1])
        self.assertEqual(judge(minus(LEAST_SMALL), minus(GREATEST_SMALL)), [-2])

    def test_nearly_small_beside_the_normal_one_of_its_value(self):
        self.assertEqual(judge(NEARLY_SMALL, SAME_BUT_NORMAL), [0, 1])
        self.assertEqual(judge(SAME_BUT_NORMAL, NEARLY_SMALL), [0, 1])
        self.assertEqual(judge(minus(NEARLY_SMALL), minus(SAME_BUT_NORMAL)), [0, 1])
        self.assertEqual(judge(minus(SAME_BUT_NORMAL), minus(NEARLY_SMALL)), [0, 1])
        self.assertEqual(judge(NEARLY_SMALL + 1, SAME_BUT_NORMAL), [-2])
        self.assertEqual(judge(SAME_BUT_NORMAL - 1, NEARLY_SMALL), [0, 1])

    def test_no_numbers(self):
        for bits in NO_NUMBERS:
            self.assertEqual(judge(bits, bits), [-2])
            self.assertEqual(judge(bits, PLUS_INFINITE), [-2])
            self.assertEqual(judge(MINUS_INFINITE, bits), [-2])

    def test_least_and_greatest_bits(self):
        self.assertEqual(judge(0, LAST_BITS), [-2])
        self.assertEqual(judge(LAST_BITS, 0), [-2])
        self.assertEqual(judge(LAST_BITS, LAST_BITS), [-2])

    def test_every_pair_of_kinds(self):
        for low in ALL_KINDS:
            for high in ALL_KINDS:
                if low == high == EMPTY:
                    wanted = [0, 0]
                else:
                    wanted = [0, 1] if is_interval(low, high) else [-2]
                self.assertEqual(judge(low, high), wanted, (hex(low), hex(high)))


class MakeTest(unittest.TestCase):
    def test_ordinary_ends(self):
        self.assertEqual(make(at(1), at(2)), [0, at(1), at(2)])
        self.assertEqual(make(at(-2), at(-1)), [0, at(-2), at(-1)])
        self.assertEqual(make(at(5), at(5)), [0, at(5), at(5)])

    def test_zeros_are_told_as_plus_zero(self):
        self.assertEqual(make(MINUS_ZERO, 0), [0, 0, 0])
        self.assertEqual(make(MINUS_ZERO, MINUS_ZERO), [0, 0, 0])
        self.assertEqual(make(0, 0), [0, 0, 0])
        self.assertEqual(make(MINUS_ZERO, at(1)), [0, 0, at(1)])
        self.assertEqual(make(at(-1), MINUS_ZERO), [0, at(-1), 0])
        self.assertEqual(make(0, MINUS_ZERO), [-5])

    def test_nearly_small_ones_are_told_as_the_normal_one(self):
        self.assertEqual(make(NEARLY_SMALL, NEARLY_SMALL), [0, SAME_BUT_NORMAL, SAME_BUT_NORMAL])
        self.assertEqual(make(SAME_BUT_NORMAL, NEARLY_SMALL), [0, SAME_BUT_NORMAL, SAME_BUT_NORMAL])
        self.assertEqual(make(minus(NEARLY_SMALL), NEARLY_SMALL), [0, minus(SAME_BUT_NORMAL), SAME_BUT_NORMAL])
        self.assertEqual(make(GREATEST_SMALL, 1 << 63), [0, GREATEST_SMALL, LEAST_NORMAL])

    def test_infinite_ends(self):
        self.assertEqual(make(MINUS_INFINITE, PLUS_INFINITE), [0, MINUS_INFINITE, PLUS_INFINITE])
        self.assertEqual(make(MINUS_INFINITE, MINUS_ZERO), [0, MINUS_INFINITE, 0])
        self.assertEqual(make(PLUS_INFINITE, PLUS_INFINITE), [-5])
        self.assertEqual(make(MINUS_INFINITE, MINUS_INFINITE), [-5])
        self.assertEqual(make(PLUS_INFINITE, MINUS_INFINITE), [-5])

    def test_no_interval_of_these_ends(self):
        self.assertEqual(make(at(2), at(1)), [-5])
        self.assertEqual(make(LEAST_SMALL, MINUS_ZERO), [-5])

    def test_the_empty_one_is_no_number_for_make(self):
        self.assertEqual(make(EMPTY, EMPTY), [-2])
        self.assertEqual(make(EMPTY, at(1)), [-2])
        self.assertEqual(make(at(1), EMPTY), [-2])

    def test_no_number_comes_ahead_of_no_interval(self):
        for bits in NO_NUMBERS:
            self.assertEqual(make(PLUS_INFINITE, bits), [-2])
            self.assertEqual(make(bits, MINUS_INFINITE), [-2])
            self.assertEqual(make(bits, bits), [-2])

    def test_least_and_greatest_bits(self):
        self.assertEqual(make(0, LAST_BITS), [-2])
        self.assertEqual(make(LAST_BITS, 0), [-2])

    def test_every_pair_of_kinds(self):
        for low in ALL_KINDS:
            for high in ALL_KINDS:
                if {kind(low), kind(high)} & {"odd", "quiet", "loud"}:
                    wanted = [-2]
                else:
                    wanted = [0, told(low), told(high)] if is_interval(low, high) else [-5]
                self.assertEqual(make(low, high), wanted, (hex(low), hex(high)))


class AnswerTest(unittest.TestCase):
    def test_answers_are_lists_of_int_and_stay_the_same(self):
        for call in (judge, make):
            for low in ALL_KINDS:
                for high in ALL_KINDS:
                    self.assertIsNone(fault_of_answer(call, (low, high)), (hex(low), hex(high)))


if __name__ == "__main__":
    unittest.main()

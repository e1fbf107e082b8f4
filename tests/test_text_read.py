"""Tests of betwixt.ends.text and betwixt.ends.read."""

import random
import unittest
from fractions import Fraction

from betwixt.ends import make, read, text
from oracle import (
    ALL_KINDS, EMPTY, GREATEST, GREATEST_SMALL, LEAST_NORMAL, LEAST_SMALL, MINUS_INFINITE, MINUS_ZERO, PLUS_INFINITE,
    at, bits_of, is_finite, is_interval, minus, next_above, next_below, value,
)
from samples import (
    LINE, NEARLY_SMALL, NONE, SAME_BUT_NORMAL, SHAPES, THIRD_DOWN, THIRD_UP, WRONG, ZERO, fault_of_answer,
    intervals_of, intervals_of_all_kinds, numbers_of, pair, told_as,
)
from wording import FORM, codes_of, fault_of_form, fault_of_reading, number_wording, wording

# Texts of a number: of ten, of sixteen, infinite; with and without a point, an exponent, needless 0s.
NUMBERS = [
    "0", "-0", "1", "-1", "7", "10", "255", "0.1", "-0.1", "0.5", "3.25", "00", "007", "-007.700", "1.000", "0.0",
    "1e0", "1e5", "1e-5", "-1e5", "12.5e3", "12.5e-3", "1e00005", "1e-00005", "1e-0", "1e4931", "1e4932", "1e4933",
    "1e-4931", "1e-4951", "-1e-4951", "1e12345", "1e-12345", "0e5", "0e99999", "-0.00e-99999", "123456789e-4",
    "0x0", "-0x0", "0x1", "-0x1", "0xff", "0x00ff", "0x1.8", "0x1.80", "-0x0.1", "0x1p0", "0x1p-1", "0x1.8p1",
    "0xabcdef.fedcba", "-0xabcdef.fedcbap-12", "0x1p16383", "0x1p16384", "-0x1p16384", "0x1p-16445", "0x1p-16446",
    "0x1e5", "0x1e5p5", "0x0p99999", "-0x0p-99999", "0x0.0p00000", "0x1.fffffffffffffffep16383",
    "0x1.ffffffffffffffffp16383", "0x1.00000000000000001", "inf", "-inf",
]


def said(interval):
    """The text that's told of an interval."""
    answer = text(*interval)
    if answer[0] != 0 or answer[1] != len(answer) - 2:
        raise ValueError("no text")
    return bytes(answer[2:]).decode("ascii")


def reading(words):
    return read(codes_of(words))


class TextTest(unittest.TestCase):
    def check_number(self, bits, wanted):
        """The text of a number at either end."""
        self.assertEqual(said((MINUS_INFINITE, bits)), f"[-inf, {wanted}]")
        self.assertEqual(said((bits, PLUS_INFINITE)), f"[{wanted}, inf]")
        self.assertEqual(said((bits, bits)), f"[{wanted}, {wanted}]")

    def check(self, bits, wanted):
        self.check_number(bits, wanted)
        self.check_number(minus(bits), "-" + wanted)

    def test_the_row_of_the_example(self):
        words = codes_of("[0x1p0, 0x1.8p0]")
        self.assertEqual(text(*pair(1, Fraction(3, 2))), [0, 16, *words])

    def test_empty(self):
        self.assertEqual(text(*NONE), [0, 5, 101, 109, 112, 116, 121])

    def test_zeros(self):
        self.check(0, "0x0p0")
        self.assertEqual(said((MINUS_ZERO, 0)), "[-0x0p0, 0x0p0]")

    def test_infinite(self):
        self.assertEqual(said(LINE), "[-inf, inf]")
        self.assertEqual(said((0, PLUS_INFINITE)), "[0x0p0, inf]")
        self.assertEqual(said((MINUS_INFINITE, MINUS_ZERO)), "[-inf, -0x0p0]")

    def test_small(self):
        self.check(LEAST_SMALL, "0x1p-16445")
        self.check(2, "0x1p-16444")
        self.check(3, "0x1.8p-16444")
        self.check(0x1F, "0x1.fp-16441")
        self.check(0x21, "0x1.08p-16440")
        self.check(GREATEST_SMALL, "0x1.fffffffffffffffcp-16383")
        self.check(1 << 62, "0x1p-16383")

    def test_nearly_small(self):
        self.check(1 << 63, "0x1p-16382")
        self.check(NEARLY_SMALL, "0x1.8p-16382")
        self.check((1 << 63) + 1, "0x1.0000000000000002p-16382")
        self.check((1 << 64) - 1, "0x1.fffffffffffffffep-16382")

    def test_normal(self):
        self.check(LEAST_NORMAL, "0x1p-16382")
        self.check(at(1), "0x1p0")
        self.check(next_above(at(1)), "0x1.0000000000000002p0")
        self.check(next_below(at(1)), "0x1.fffffffffffffffep-1")
        self.check(at(255), "0x1.fep7")
        self.check(at(Fraction(17, 16)), "0x1.1p0")
        self.check(at(Fraction(257, 256)), "0x1.01p0")
        self.check(bits_of(0, 0x3FFF, 0x91A2B3C4D5E6F780), "0x1.23456789abcdefp0")
        self.check(bits_of(0, 0x3FFF, 0xFF6E5D4C3B2A1908), "0x1.fedcba987654321p0")
        self.check(GREATEST, "0x1.fffffffffffffffep16383")

    def test_exponents_of_one_to_five_digits(self):
        for exponent in (1, 9, 10, 42, 99, 100, 512, 999, 1000, 8191, 9999, 10000, 16382):
            self.check(at(Fraction(2) ** exponent), f"0x1p{exponent}")
            self.check(at(Fraction(2) ** -exponent), f"0x1p-{exponent}")
        self.check(at(1 << 16383), "0x1p16383")
        self.check(at(Fraction(1, 1 << 16384)), "0x1p-16384")

    def test_ends_are_told_as_they_are(self):
        self.assertEqual(said((MINUS_ZERO, NEARLY_SMALL)), "[-0x0p0, 0x1.8p-16382]")
        self.assertEqual(said((MINUS_ZERO, MINUS_ZERO)), "[-0x0p0, -0x0p0]")

    def test_no_interval(self):
        for wrong in WRONG:
            self.assertEqual(text(*wrong), [-2], told_as(wrong))

    def test_every_pair_of_all_kinds(self):
        for low in ALL_KINDS:
            for high in ALL_KINDS:
                if low == high == EMPTY:
                    continue
                if is_interval(low, high):
                    self.assertEqual(said((low, high)), CACHED[low][0] + CACHED[high][1])
                else:
                    self.assertEqual(text(low, high), [-2], told_as((low, high)))

    def test_many_intervals(self):
        for x in intervals_of(random.Random(51), 600):
            self.assertEqual(said(x), wording(*x), told_as(x))


def halves(bits):
    """A number's text as that of a lower and of an upper end."""
    words = number_wording(bits)
    return f"[{words}, ", f"{words}]"


CACHED = {bits: halves(bits) for bits in ALL_KINDS if is_finite(bits) or bits in LINE}


class ReadTest(unittest.TestCase):
    def check(self, words, low, high):
        """These words, alone and at both ends, are read so; with minus ahead, as minus that."""
        wanted = told_as([0, low, high])
        self.assertEqual(told_as(reading(words)), wanted, words[:80])
        self.assertEqual(told_as(reading(f"[{words}, {words}]")), wanted, words[:80])
        turned = told_as([0, minus(high) if high else 0, minus(low) if low else 0])
        self.assertEqual(told_as(reading("-" + words)), turned, words[:80])
        self.assertEqual(told_as(reading(f"[-{words}, -{words}]")), turned, words[:80])

    def check_exact(self, words, number):
        self.check(words, at(number), at(number))

    def test_the_row_of_the_example(self):
        self.assertEqual(reading("0.1"), [0, 0x3FFBCCCCCCCCCCCCCCCC, 0x3FFBCCCCCCCCCCCCCCCD])

    def test_empty(self):
        self.assertEqual(reading("empty"), [0, EMPTY, EMPTY])

    def test_pairs(self):
        self.assertEqual(reading("[1, 2]"), [0, *pair(1, 2)])
        self.assertEqual(reading("[-1, 2.5]"), [0, *pair(-1, Fraction(5, 2))])
        self.assertEqual(reading("[-0x1p1, 1e1]"), [0, *pair(-2, 10)])
        self.assertEqual(reading("[-inf, inf]"), [0, *LINE])
        self.assertEqual(reading("[-inf, -3]"), [0, MINUS_INFINITE, at(-3)])
        self.assertEqual(reading("[0x10, inf]"), [0, at(16), PLUS_INFINITE])
        self.assertEqual(reading("[0.1, 0.1]"), reading("0.1"))
        self.assertEqual(reading("[0.1, 0.2]"), [0, 0x3FFBCCCCCCCCCCCCCCCC, 0x3FFCCCCCCCCCCCCCCCCD])

    def test_ten(self):
        self.check_exact("1", 1)
        self.check_exact("10", 10)
        self.check_exact("12345678901234567890", 12345678901234567890)
        self.check_exact("0.5", Fraction(1, 2))
        self.check_exact("3.25", Fraction(13, 4))
        self.check_exact("1e3", 1000)
        self.check_exact("125e-3", Fraction(1, 8))
        self.check_exact("0.00125e2", Fraction(1, 8))
        self.check_exact("1e27", 10 ** 27)
        self.check_exact("18446744073709551615", (1 << 64) - 1)
        self.check_exact("36893488147419103230", (1 << 65) - 2)

    def test_sixteen(self):
        self.check_exact("0x1", 1)
        self.check_exact("0x10", 16)
        self.check_exact("0x123456789abcdef", 0x123456789ABCDEF)
        self.check_exact("0x1.8", Fraction(3, 2))
        self.check_exact("0x0.08", Fraction(1, 32))
        self.check_exact("0x1p10", 1024)
        self.check_exact("0x1p-10", Fraction(1, 1024))
        self.check_exact("0xa.cp2", 43)
        self.check_exact("0x1e5", 0x1E5)
        self.check_exact("0x1e5p1", 0x3CA)
        self.check_exact("0xffffffffffffffff", (1 << 64) - 1)
        self.check_exact("0x1fffffffffffffffe", (1 << 65) - 2)

    def test_needless_zeros(self):
        self.check_exact("00000012", 12)
        self.check_exact("12.50000", Fraction(25, 2))
        self.check_exact("0012.50", Fraction(25, 2))
        self.check_exact("1e00002", 100)
        self.check_exact("100e-00002", 1)
        self.check_exact("0x000c", 12)
        self.check_exact("0x0c.8000", Fraction(25, 2))
        self.check_exact("0x00003p00001", 6)
        self.check_exact("3e0", 3)
        self.check_exact("3e-0", 3)
        self.check_exact("3e-00000", 3)
        self.check_exact("0x3p-0", 3)

    def test_exponents_of_one_and_of_five_digits(self):
        self.check_exact("5e9", 5 * 10 ** 9)
        self.check_exact("5e00009", 5 * 10 ** 9)
        self.check_exact("0x1p9", 512)
        self.check_exact("0x1p12345", 1 << 12345)
        self.check_exact("0x1p-12345", Fraction(1, 1 << 12345))
        self.check_exact("0x1p16383", 1 << 16383)
        self.check_exact("0x0.0001p16399", 1 << 16383)
        self.check_exact("0x10000p-16461", value(LEAST_SMALL))

    def test_not_exact(self):
        self.check("0.3333333333333333333333333", THIRD_DOWN, THIRD_UP)
        self.check("18446744073709551617", at(1 << 64), at((1 << 64) + 2))
        self.check("0x10000000000000001", at(1 << 64), at((1 << 64) + 2))
        self.check("0x10000000000000003", at((1 << 64) + 2), at((1 << 64) + 4))
        self.check("0x1.00000000000000000000001", at(1), next_above(at(1)))
        self.check("0x0.ffffffffffffffff8", next_below(at(1)), at(1))
        self.check("1.00000000000000000000000000001", at(1), next_above(at(1)))
        self.check("0.99999999999999999999999999999", next_below(at(1)), at(1))

    def test_beyond_the_greatest(self):
        for words in ("1e4933", "1e99999", "9" * 4000 + "e1000", "0x1p16384", "0x1p99999", "0x1.ffffffffffffffffp16383",
                      "0x1.fffffffffffffffe00001p16383", "0.0001e99999"):
            self.check(words, GREATEST, PLUS_INFINITE)
        self.check("0x1.fffffffffffffffep16383", GREATEST, GREATEST)
        self.check("0xffffffffffffffffp16320", GREATEST, GREATEST)
        self.check("0x1.fffffffffffffffdp16383", GREATEST - 1, GREATEST)

    def test_below_the_least_small_one(self):
        for words in ("1e-4952", "1e-99999", "0x1p-16446", "0x1p-99999", "0x0.8p-16445", "0." + "0" * 4000 + "1e-1000",
                      "0x0.fffffffffffffffffp-16445", "1000e-99999"):
            self.check(words, 0, LEAST_SMALL)
        self.check("0x1p-16445", LEAST_SMALL, LEAST_SMALL)
        self.check("0x1.8p-16445", LEAST_SMALL, 2)
        self.check("0x3p-16445", 3, 3)
        self.check("0x1.0000000001p-16445", LEAST_SMALL, 2)

    def test_from_small_to_normal(self):
        self.check("0x1p-16382", LEAST_NORMAL, LEAST_NORMAL)
        self.check("0x1.fffffffffffffffcp-16383", GREATEST_SMALL, GREATEST_SMALL)
        self.check("0x1.fffffffffffffffep-16383", GREATEST_SMALL, LEAST_NORMAL)
        self.check("0x1.0000000000000001p-16382", LEAST_NORMAL, LEAST_NORMAL + 1)
        self.check("0x1.8p-16382", SAME_BUT_NORMAL, SAME_BUT_NORMAL)

    def test_zeros(self):
        for words in ("0", "00", "0.0", "0e0", "0e99999", "0e-99999", "0.000e5", "0x0", "0x00.00", "0x0p0",
                      "0x0p99999", "0x0p-99999"):
            self.check(words, 0, 0)
            self.assertEqual(reading(f"[-{words}, {words}]"), [0, *ZERO])
            self.assertEqual(reading(f"[{words}, -{words}]"), [0, *ZERO])
            self.assertEqual(reading(f"[-1, -{words}]"), [0, at(-1), 0])
            self.assertEqual(reading(f"[-{words}, 1]"), [0, 0, at(1)])

    def test_equal_values_written_in_different_ways(self):
        for low, high in (("0.5", "0x0.8"), ("1e1", "0xa"), ("100e-2", "1"), ("-0x1p2", "-4"), ("1.50", "0x3p-1"),
                          ("0e99999", "-0x0p-99999"), ("0x1p99999", "0x2p99998"), ("10e99998", "1e99999"),
                          ("0.1e-99998", "1e-99999"), ("0.1", "1e-1")):
            for words in (f"[{low}, {high}]", f"[{high}, {low}]"):
                self.assertEqual(told_as(reading(words)), told_as(reading(low)), words)
                self.assertEqual(reading(words)[0], 0, words)

    def test_every_pair_of_numbers(self):
        for low in NUMBERS:
            self.assertIsNone(fault_of_reading(reading(low), low), low)
            for high in NUMBERS:
                if "99999" in low or "99999" in high:
                    continue
                words = f"[{low}, {high}]"
                self.assertIsNone(fault_of_reading(reading(words), words), words)

    def test_many_numbers(self):
        source = random.Random(52)
        for _ in range(1500):
            words = number_by_chance(source)
            self.assertIsNone(fault_of_reading(reading(words), words), words)
            words = f"[{words}, {number_by_chance(source)}]"
            self.assertIsNone(fault_of_reading(reading(words), words), words)

    def test_beside_numbers(self):
        # A number's text with more digits than a number has: midway to the next one, and a little to either side.
        source = random.Random(53)
        numbers = [bits for bits in numbers_of(source, 300) if is_finite(bits) and value(bits)]
        for bits in numbers:
            head, exponent = number_wording(bits).split("p")
            before, _, behind = head.partition(".")
            for more in ("0", "1", "0fffffffffff", "100000000001", "0000000000001"):
                words = f"{before}.{behind:0<16}{more}p{exponent}"
                self.assertIsNone(fault_of_reading(reading(words), words), words)


def number_by_chance(source):
    """A text of a number, of few or many digits, many of like size."""
    base, mark = source.choice([("0123456789", "e"), ("0123456789abcdef", "p")])
    words = source.choice(["", "-"]) + ("0x" if mark == "p" else "")
    words += "".join(source.choice(base) for _ in range(source.choice([1, 2, 3, 20, 40])))
    if source.getrandbits(1):
        words += "." + "".join(source.choice(base) for _ in range(source.choice([1, 2, 20, 40])))
    if source.getrandbits(1):
        words += mark + source.choice(["", "-"]) + str(source.choice([0, 1, 5, 17, 64, 310, 4900, 4960, 16400]))
    return words


class LongTest(unittest.TestCase):
    def check(self, words, low, high):
        self.assertEqual(told_as(reading(words)), told_as([0, low, high]), (words[:40], words[-40:]))

    def test_8192_bytes(self):
        zeros = "0" * 8191
        self.check(zeros + "7", at(7), at(7))
        self.check("7." + "0" * 8190, at(7), at(7))
        self.check("7." + "0" * 8189 + "1", at(7), next_above(at(7)))
        self.check("0x" + "0" * 8189 + "f", at(15), at(15))
        self.check("-0x" + "0" * 8188 + "f", at(-15), at(-15))
        self.check("9" * 8192, GREATEST, PLUS_INFINITE)
        self.check("-" + "9" * 8191, MINUS_INFINITE, minus(GREATEST))
        self.check("0." + "3" * 8190, THIRD_DOWN, THIRD_UP)
        self.check("0x" + "f" * 8190, GREATEST, PLUS_INFINITE)
        self.check("1" + "0" * 8185 + "e-8185", at(1), at(1))
        self.check("0." + "0" * 8184 + "1e8185", at(1), at(1))

    def test_the_point_and_the_exponent_far_apart(self):
        self.check("1" + "0" * 8000 + "e-8000", at(1), at(1))
        self.check("0." + "0" * 7999 + "1e8000", at(1), at(1))
        self.check("0." + "0" * 7999 + "3e7999", *reading("0.3")[1:])
        self.check("0x1" + "0" * 8000 + "p-32000", at(1), at(1))
        self.check("0x0." + "0" * 7999 + "1p32000", at(1), at(1))
        self.check("0x0." + "0" * 7999 + "1000000000000000000001p32000", at(1), next_above(at(1)))

    def test_exponents_near_their_greatest(self):
        nines = "9" * 8000
        for exponent in ("99999", "99998", "12345"):
            self.check("0." + nines + "e" + exponent, GREATEST, PLUS_INFINITE)
            self.check(nines + "." + "9" * 180 + "e" + exponent, GREATEST, PLUS_INFINITE)
            self.check("-" + nines + "e" + exponent, MINUS_INFINITE, minus(GREATEST))
            self.check(nines + "e-" + "99999", 0, LEAST_SMALL)
            self.check("0." + nines + "e-" + exponent, 0, LEAST_SMALL)
            self.check("-0." + nines + "e-" + exponent, minus(LEAST_SMALL), 0)
            self.check("0x0." + nines + "p-" + "99999", 0, LEAST_SMALL)
        self.check("0x" + "f" * 8000 + "p-99999", 0, LEAST_SMALL)
        self.check("0x0." + "0" * 8000 + "1p99999", GREATEST, PLUS_INFINITE)

    def test_long_pairs(self):
        nines = "9" * 4080
        self.check(f"[-{nines}e99999, {nines}e99999]", MINUS_INFINITE, PLUS_INFINITE)
        self.check(f"[-{nines}e-99999, {nines}e-99999]", minus(LEAST_SMALL), LEAST_SMALL)
        self.check(f"[0.{nines}, 1.{nines}]", next_below(at(1)), at(2))
        self.assertEqual(reading(f"[1.{nines}, 0.{nines}]"), [-5])
        self.assertEqual(reading(f"[0.{nines}e99999, 0x0.{nines}p99999]"), [-5])
        self.assertEqual(reading(f"[0x0.{nines}p-99999, 0.{nines}e-99999]"), [-5])
        self.check(f"[0x0.{nines}p99999, 0.{nines}e99999]", GREATEST, PLUS_INFINITE)

    def test_too_long(self):
        for count in (8193, 8194, 9000):
            self.assertEqual(read([ord("1")] * count), [-1])
            self.assertEqual(read([ord("0")] * count), [-1])
            self.assertEqual(read([255] * count), [-1])
            self.assertEqual(read(codes_of("empty") + [0] * (count - 5)), [-1])
        self.assertEqual(read([ord("1")] * 8192)[0], 0)

    def test_faults_of_long_texts(self):
        self.assertEqual(read([255] * 8192), [-2, 0])
        self.assertEqual(reading("1" * 8191 + "x"), [-2, 8191])
        self.assertEqual(reading("1" * 8191 + "."), [-2, 8192])
        self.assertEqual(reading("[" + "1" * 8191), [-2, 8192])
        self.assertEqual(reading("0x" + "a" * 8189 + "g"), [-2, 8191])
        self.assertEqual(reading("0" * 8190 + "x1"), [-2, 8190])


class FaultTest(unittest.TestCase):
    def check(self, words, fault):
        self.assertEqual(reading(words), [-2, fault], words)
        self.assertEqual(fault_of_form(words), fault, words)

    def test_the_rows_of_the_example(self):
        self.check("[1,2]", 3)
        self.check("", 0)
        self.check("[1, 2", 5)

    def test_x_behind_a_zero_that_is_not_the_first_and_only_digit(self):
        self.check("00x1", 2)
        self.check("10x1", 2)
        self.check("-00x1", 3)
        self.check("1x1", 1)
        self.check("0.0x1", 3)
        self.check("0e0x1", 3)
        self.check("0x0x1", 3)
        self.check("[0, 00x1]", 6)
        self.check("x1", 0)

    def test_capital_letters(self):
        self.check("Empty", 0)
        self.check("emptY", 4)
        self.check("INF", 0)
        self.check("iNF", 1)
        self.check("1E5", 1)
        self.check("0X1", 1)
        self.check("0xA", 2)
        self.check("0x1A", 3)
        self.check("0x1P5", 3)
        self.check("[1, 2E5]", 5)

    def test_a_sixth_digit_of_an_exponent(self):
        self.check("1e123456", 7)
        self.check("1e000000", 7)
        self.check("1e-000001", 8)
        self.check("0x1p123456", 9)
        self.check("0x1p-123456", 10)
        self.check("[1e000001, 2]", 8)

    def test_no_digit_beside_a_point_or_a_mark(self):
        self.check(".5", 0)
        self.check("-.5", 1)
        self.check("1.", 2)
        self.check("1.e5", 2)
        self.check("1e", 2)
        self.check("1e-", 3)
        self.check("1e.", 2)
        self.check("1.5.", 3)
        self.check("1e5.5", 3)
        self.check("1e5e5", 3)
        self.check("e5", 1)
        self.check("0x", 2)
        self.check("0x.8", 2)
        self.check("0xp1", 2)
        self.check("0x1.", 4)
        self.check("0x1.p1", 4)
        self.check("0x1p", 4)
        self.check("0x1p-", 5)
        self.check("0x1pa", 4)
        self.check("1p5", 1)
        self.check("0p5", 1)
        self.check("0x1p5p5", 5)
        self.check("[1., 2]", 3)
        self.check("[1, 2e]", 6)

    def test_signs(self):
        self.check("-", 1)
        self.check("--1", 1)
        self.check("+1", 0)
        self.check("1e+5", 2)
        self.check("1e--5", 3)
        self.check("-empty", 1)
        self.check("-[1, 2]", 1)
        self.check("1-", 1)

    def test_blanks_and_brackets(self):
        self.check(" 1", 0)
        self.check("1 ", 1)
        self.check("[ 1, 2]", 1)
        self.check("[1 , 2]", 2)
        self.check("[1,  2]", 4)
        self.check("[1, 2 ]", 5)
        self.check("[1, 2] ", 6)
        self.check("[1, 2]]", 6)
        self.check("[1]", 2)
        self.check("[1;2]", 2)
        self.check("[1, 2, 3]", 5)
        self.check("[]", 1)
        self.check("[empty]", 1)
        self.check("[1, empty]", 4)
        self.check("]", 0)
        self.check("1, 2", 1)
        self.check("[[1, 2]]", 1)
        self.check("1\n", 1)

    def test_words(self):
        self.check("in", 2)
        self.check("i", 1)
        self.check("infinity", 3)
        self.check("inf1", 3)
        self.check("inf.5", 3)
        self.check("-infe5", 4)
        self.check("nan", 0)
        self.check("e", 1)
        self.check("emptyy", 5)
        self.check("1inf", 1)
        self.check("0xinf", 2)

    def test_bytes_above_127_and_below_32(self):
        for code in (0, 9, 10, 13, 31, 127, 128, 160, 178, 185, 255):
            for words in ("", "1", "-", "0x1", "[1, ", "[1, 2]", "empty", "in", "1e"):
                for behind in ([], [ord("1")], [code]):
                    self.assertEqual(read(codes_of(words) + [code] + behind), [-2, len(words)], (words, code))

    def test_every_text_of_one_and_of_two_bytes(self):
        for first in range(256):
            self.assertIsNone(fault_of_reading(read([first]), chr(first)), first)
            for second in range(256):
                if chr(first) in "-0123456789[ei":
                    words = chr(first) + chr(second)
                    self.assertIsNone(fault_of_reading(read([first, second]), words), words)
                else:
                    self.assertEqual(read([first, second]), [-2, 0], (first, second))


class BeginningsTest(unittest.TestCase):
    """Every beginning of a text of right form, alone and with another byte behind it."""

    TEXTS = NUMBERS + ["empty"] + [
        "[1, 2]", "[-1.5e-3, 0x1.8p-2]", "[-inf, inf]", "[0x00.0p-00000, -0.0e-00000]", "[0xabcdefp1, 123.456e12345]",
        "[inf, -inf]", "[-0, 00]",
    ]
    BYTES = codes_of("0179aefgpxiny-+.,[] E") + [0, 128, 255]

    def beginnings(self):
        return sorted({words[:count] for words in self.TEXTS for count in range(len(words) + 1)})

    def test_beginnings(self):
        for words in self.beginnings():
            if FORM.fullmatch(words):
                self.assertIn(reading(words)[0], (0, -5), words)
            else:
                self.assertEqual(reading(words), [-2, len(words)], words)

    def test_another_byte_behind(self):
        for words in self.beginnings():
            for code in self.BYTES:
                answer = read(codes_of(words) + [code])
                fault = fault_of_form(words + chr(code))
                if fault is None:
                    self.assertIn(answer[0], (0, -5), (words, code))
                else:
                    self.assertEqual(answer, [-2, fault], (words, code))

    def test_a_byte_behind_a_whole_text(self):
        for words in self.TEXTS:
            for code in codes_of(" ],[-+xgEz\n") + [0, 128, 255]:
                if fault_of_form(words + chr(code)) == len(words):
                    self.assertEqual(read(codes_of(words) + [code]), [-2, len(words)], words)
                    self.assertEqual(read(codes_of(words) + [code, ord("1")]), [-2, len(words)], words)

    def test_changed_texts(self):
        source = random.Random(54)
        for _ in range(4000):
            words = list(source.choice(self.TEXTS))
            spot = source.randrange(len(words))
            words[spot:spot + source.choice([0, 1, 1, 2])] = chr(source.choice(self.BYTES))
            words = "".join(words)
            if "99999" not in words:
                self.assertIsNone(fault_of_reading(reading(words), words), words)


class NoIntervalTest(unittest.TestCase):
    def check(self, words):
        self.assertEqual(reading(words), [-5], words)

    def test_above(self):
        self.check("[2, 1]")
        self.check("[1, -1]")
        self.check("[-1, -2]")
        self.check("[0x1p1, 1]")
        self.check("[1, 0]")
        self.check("[0, -1]")
        self.check("[1e99999, 1e99998]")
        self.check("[-1e99998, -1e99999]")
        self.check("[1e-99998, 1e-99999]")
        self.check("[1e-99999, 0]")
        self.check("[0, -1e-99999]")
        self.check("[0x1p99999, 0]")
        self.check("[1e99999, 0x1p99999]")

    def test_above_by_less_than_both_are_rounded_to(self):
        self.check("[1.0000000000000000000000000002, 1.0000000000000000000000000001]")
        self.check("[-1.0000000000000000000000000001, -1.0000000000000000000000000002]")
        self.check("[0.10000000000000000000000000001, 0.1]")
        self.check("[0x1.000000000000000000001, 1]")
        self.check("[1, 0x0.fffffffffffffffffffffff]")
        self.check("[0.1, 0x0.199999999999999999999999]")
        self.check("[2e-5000, 1e-5000]")
        self.check("[2e5000, 1e5000]")
        self.assertEqual(reading("[0.1, 0.10000000000000000000000000001]"), reading("0.1"))
        self.assertEqual(reading("[0x0.199999999999999999999999, 0.1]"), reading("0.1"))

    def test_infinite(self):
        for words in ("inf", "-inf", "[inf, inf]", "[-inf, -inf]", "[inf, -inf]", "[inf, 1]", "[inf, 1e99999]",
                      "[1, -inf]", "[-1e99999, -inf]", "[0, -inf]", "[inf, 0]"):
            self.check(words)
        self.assertEqual(reading("[-inf, inf]"), [0, *LINE])
        self.assertEqual(reading("[-inf, -1e99999]"), [0, MINUS_INFINITE, minus(GREATEST)])
        self.assertEqual(reading("[1e99999, inf]"), [0, GREATEST, PLUS_INFINITE])


class ReadAsItselfTest(unittest.TestCase):
    """An interval that's told is read as itself from its text; any other as it's told."""

    def check(self, x):
        wanted = [0, *NONE] if x == NONE else make(*x)
        self.assertEqual(told_as(reading(said(x))), told_as(wanted), told_as(x))

    def test_all_shapes(self):
        for x in SHAPES:
            self.check(x)

    def test_every_interval_of_all_kinds(self):
        for x in intervals_of_all_kinds():
            self.check(x)

    def test_many_intervals(self):
        for x in intervals_of(random.Random(55), 1500):
            self.check(x)


class AnswerTest(unittest.TestCase):
    def test_answers_are_lists_of_int_and_stay_the_same(self):
        for x in SHAPES + WRONG:
            self.assertIsNone(fault_of_answer(text, x), told_as(x))
        for words in NUMBERS + ["", "empty", "[1, 2]", "[1,2]", "[2, 1]", "1" * 8193]:
            self.assertIsNone(fault_of_answer(read, (codes_of(words),)), words)

    def test_what_is_handed_in_stays(self):
        for words in NUMBERS + ["", "empty", "[1, 2]", "[1,2]", "[2, 1]", "1" * 8193]:
            codes = codes_of(words)
            read(codes)
            self.assertEqual(codes, codes_of(words))


if __name__ == "__main__":
    unittest.main()

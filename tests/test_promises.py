"""Tests of what the document promises over the whole program: its example, E1, E2, E4, E5 and the closing words."""

import contextlib
import inspect
import io
import random
import sys
import unittest
from fractions import Fraction

from betwixt import ends
from oracle import (
    ALL_KINDS, EMPTY, INFINITE, MINUS_INFINITE, PLUS_INFINITE, at, bounds, bounds_of_div2, bounds_of_one,
    bounds_of_power, bounds_of_two, fault_of_hull, fault_of_middle, fault_of_root, fault_of_width, is_finite,
    is_interval, value,
)
from samples import (
    ABOVE, LINE, NONE, SHAPES, WRONG, ZERO, fault_of_answer, intervals_of, is_within, numbers_of, pair,
    part_of, told_as,
)
from wording import codes_of, ends_of

ADD, SUB, MUL, DIV, MIN, MAX, JOIN, MEET = range(8)
SQRT, SQUARE, ABS, NEG = range(4)
POWERS = (-3, -2, -1, 0, 1, 2, 3)
BIG = Fraction(10) ** 6000


def operands(seed, count):
    """Pairs of intervals: of every shape with some other, and of many by chance."""
    source = random.Random(seed)
    shapes = list(SHAPES)
    source.shuffle(shapes)
    many = intervals_of(source, 2 * count)
    return list(zip(SHAPES, shapes)) + list(zip(many[::2], many[1::2]))


def points_of(x):
    """Some real numbers of X, not all of them extended ones; far ones where it's unbounded."""
    if x == NONE:
        return []
    low, high = value(x[0]), value(x[1])
    if low == -INFINITE:
        low = min(high, Fraction(0)) - BIG if high != INFINITE else -BIG
    if high == INFINITE:
        high = max(low, Fraction(0)) + BIG
    found = {low, high, (2 * low + high) / 3, (low + high) / 2}
    return sorted(found | ({Fraction(0)} if low < 0 < high else set()))


def made_of_two(op, x, y):
    """What an op makes of a number of X and one of Y; join and meet make it of sets."""
    if op == DIV:
        return [x / y] if y else []
    return [[x + y, x - y, x * y, None, min(x, y), max(x, y)][op]]


def sets_of(answer):
    """The intervals of an answer of div2."""
    return [tuple(answer[spot:spot + 2]) for spot in range(2, len(answer), 2)]


def holds(told, number):
    return told[0] != EMPTY and value(told[0]) <= number <= value(told[1])


class ExampleTest(unittest.TestCase):
    """Every row of the document's example."""

    X = pair(1, 2)
    Y = pair(-1, 3)

    def test_two_and_div2(self):
        self.assertEqual(ends.two(ADD, *self.X, *self.Y), [0, *pair(0, 5)])
        self.assertEqual(ends.two(MUL, *self.X, *self.Y), [0, *pair(-2, 6)])
        self.assertEqual(ends.two(DIV, *self.X, *self.Y), [0, *LINE])
        self.assertEqual(ends.div2(*self.X, *self.Y),
                         [0, 2, MINUS_INFINITE, at(-1), 0x3FFDAAAAAAAAAAAAAAAA, PLUS_INFINITE])
        self.assertEqual(ends.two(DIV, *pair(0, 1), *pair(0, 2)), [0, *ABOVE])
        self.assertEqual(ends.two(DIV, *ZERO, *self.Y), [0, *ZERO])
        self.assertEqual(ends.two(DIV, *self.X, *ZERO), [0, *NONE])

    def test_one_and_power(self):
        self.assertEqual(ends.one(SQUARE, *self.Y), [0, *pair(0, 9)])
        self.assertEqual(ends.power(*pair(-1, 0), -1), [0, MINUS_INFINITE, at(-1)])
        self.assertEqual(ends.one(SQRT, *pair(-4, 4)), [0, *pair(0, 2)])

    def test_relate(self):
        self.assertEqual(ends.relate(0, *pair(1, 2), *pair(2, 3)), [0, 0])
        self.assertEqual(ends.relate(2, *pair(1, 2), *pair(2, 3)), [0, 1])
        for x in SHAPES:
            self.assertEqual(ends.relate(0, *NONE, *x), [0, 1])
            self.assertEqual(ends.relate(1, *NONE, *x), [0, 0])

    def test_width(self):
        self.assertEqual(ends.width(*pair(1, Fraction(3, 2))), [0, at(Fraction(1, 2))])

    def test_text_and_read(self):
        wanted = codes_of("[0x1p0, 0x1.8p0]")
        self.assertEqual(ends.text(*pair(1, Fraction(3, 2))), [0, len(wanted), *wanted])
        self.assertEqual(ends.read(codes_of("0.1")), [0, 0x3FFBCCCCCCCCCCCCCCCC, 0x3FFBCCCCCCCCCCCCCCCD])
        self.assertEqual(ends.read(codes_of("[1,2]")), [-2, 3])
        self.assertEqual(ends.read([]), [-2, 0])
        self.assertEqual(ends.read(codes_of("[1, 2")), [-2, 5])


class NothingIsLostTest(unittest.TestCase):
    """E1: of any x in X, y in Y what they make is in what's told."""

    def test_two_and_div2(self):
        for x, y in operands(61, 60):
            told = [ends.two(op, *x, *y)[1:] for op in range(8)]
            apart = sets_of(ends.div2(*x, *y))
            for p in points_of(x):
                self.assertTrue(holds(told[JOIN], p), told_as(x + y))
                for q in points_of(y):
                    for op in range(JOIN):
                        for made in made_of_two(op, p, q):
                            self.assertTrue(holds(told[op], made), (op, told_as(x + y)))
                    if q:
                        self.assertTrue(any(holds(part, p / q) for part in apart), told_as(x + y))
            for q in points_of(y):
                self.assertTrue(holds(told[JOIN], q), told_as(x + y))
            for p in points_of(x) + points_of(y):
                if x != NONE and y != NONE and holds(x, p) and holds(y, p):
                    self.assertTrue(holds(told[MEET], p), told_as(x + y))

    def test_one_and_power(self):
        for x, _ in operands(62, 120):
            told = [ends.one(op, *x)[1:] for op in range(4)]
            raised = {n: ends.power(*x, n)[1:] for n in POWERS}
            for p in points_of(x):
                if p >= 0:
                    low, high = (value(end) for end in told[SQRT])
                    self.assertTrue(0 <= low and low ** 2 <= p and (high == INFINITE or p <= high ** 2), told_as(x))
                for op, made in ((SQUARE, p * p), (ABS, abs(p)), (NEG, -p)):
                    self.assertTrue(holds(told[op], made), (op, told_as(x)))
                for n in POWERS:
                    if p or n >= 0:
                        self.assertTrue(holds(raised[n], p ** n), (n, told_as(x)))

    def test_make_width_and_has(self):
        for x, _ in operands(63, 200):
            if x == NONE:
                continue
            points = points_of(x)
            told, wide = ends.make(*x)[1:], value(ends.width(*x)[1])
            for p in points:
                self.assertTrue(holds(told, p) and p - points[0] <= wide, told_as(x))
            for bits in filter(is_finite, x):
                self.assertEqual(ends.has(*x, bits), [0, 1], told_as(x))

    def test_read(self):
        for words in ("0.1", "[-0.1, 1e-5000]", "[-1e5000, 0x1.00000000000000000001]", "[0.3, 0.7]", "-1e-5000"):
            told, said = ends.read(codes_of(words))[1:], ends_of(words)
            self.assertTrue(holds(told, said[0]) and holds(told, said[1]), words)


class LeastTest(unittest.TestCase):
    """E2: what's told is least."""

    def check(self, answer, wanted, given):
        self.assertIsNone(fault_of_hull(answer, wanted), (given, told_as(answer)))

    def test_two_and_div2(self):
        for x, y in operands(64, 200):
            for op in range(8):
                self.check(ends.two(op, *x, *y), bounds_of_two(op, bounds(*x), bounds(*y)), (op, told_as(x + y)))
            found = sets_of(ends.div2(*x, *y))
            wanted = bounds_of_div2(bounds(*x), bounds(*y))
            self.assertEqual(len(found), len(wanted), told_as(x + y))
            for part, limits in zip(found, wanted):
                self.check([0, *part], limits, told_as(x + y))

    def test_one_and_power(self):
        for x, _ in operands(65, 200):
            self.assertIsNone(fault_of_root(ends.one(SQRT, *x), bounds(*x)), told_as(x))
            for op in (SQUARE, ABS, NEG):
                self.check(ends.one(op, *x), bounds_of_one(op, bounds(*x)), (op, told_as(x)))
            for n in POWERS:
                self.check(ends.power(*x, n), bounds_of_power(n, bounds(*x)), (n, told_as(x)))

    def test_roots_of_squares(self):
        for x, _ in operands(66, 200):
            if x == NONE or value(x[0]) < 0:
                continue
            roots = ends.one(SQRT, *ends.one(SQUARE, *x)[1:])[1:]
            self.assertTrue(is_within(x, roots), told_as(x))
        for low, high in ((0, 3), (1, 1), (5, 1 << 31), (Fraction(1, 4), (1 << 32) - 1)):
            self.assertEqual(ends.one(SQRT, *pair(low ** 2, high ** 2)), [0, *pair(low, high)])

    def test_make_width_middle_and_read(self):
        for x, _ in operands(67, 200):
            if x == NONE:
                continue
            self.check(ends.make(*x), bounds(*x), told_as(x))
            self.assertIsNone(fault_of_width(ends.width(*x), bounds(*x)), told_as(x))
            self.assertIsNone(fault_of_middle(ends.middle(*x), bounds(*x)), told_as(x))
        for words in ("0.1", "[-0.1, 1e-5000]", "[-1e5000, 0x1.00000000000000000001]", "[0.3, 0.7]", "-1e-5000"):
            self.check(ends.read(codes_of(words)), ends_of(words), words)


class PartsTest(unittest.TestCase):
    """E4: within X, Y what's told of parts is within what's told of the whole."""

    def parts(self, seed):
        source = random.Random(seed)
        numbers = numbers_of(source, 200)
        for x, y in operands(seed, 150):
            if NONE in (x, y):
                yield x, y, NONE, NONE
                continue
            x_part, y_part = part_of(source, x, numbers), part_of(source, y, numbers)
            if is_interval(*x_part) and is_interval(*y_part):
                yield x, y, x_part, y_part
                yield x, y, x, y_part
                yield x, y, x_part, NONE

    def test_two_and_div2(self):
        for x, y, x_part, y_part in self.parts(68):
            given = told_as(x + y + x_part + y_part)
            for op in range(8):
                self.assertTrue(is_within(ends.two(op, *x_part, *y_part)[1:], ends.two(op, *x, *y)[1:]), (op, given))
            whole = sets_of(ends.div2(*x, *y))
            for part in sets_of(ends.div2(*x_part, *y_part)):
                self.assertTrue(any(is_within(part, other) for other in whole), given)

    def test_one_and_power(self):
        for x, _, part, _ in self.parts(69):
            for op in range(4):
                self.assertTrue(is_within(ends.one(op, *part)[1:], ends.one(op, *x)[1:]), (op, told_as(x + part)))
            for n in POWERS:
                self.assertTrue(is_within(ends.power(*part, n)[1:], ends.power(*x, n)[1:]), (n, told_as(x + part)))

    def test_make_relate_width_and_has(self):
        for x, _, part, _ in self.parts(70):
            self.assertEqual(ends.relate(5, *part, *x), [0, 1], told_as(x + part))
            if NONE in (x, part):
                continue
            self.assertTrue(is_within(ends.make(*part)[1:], ends.make(*x)[1:]), told_as(x + part))
            self.assertLessEqual(value(ends.width(*part)[1]), value(ends.width(*x)[1]), told_as(x + part))
            self.assertEqual(ends.has(*x, ends.middle(*part)[1]), [0, 1], told_as(x + part))

    def test_read(self):
        rows = ["0.5", "[0.4, 0.6]", "[0.33333, 0.66667]", "[0x0.4, 0x0.c]", "[1e-5000, 1e5000]", "[-1e-5000, inf]",
                "[-inf, inf]"]
        for part, whole in zip(rows, rows[1:]):
            self.assertTrue(is_within(ends.read(codes_of(part))[1:], ends.read(codes_of(whole))[1:]), part)


class ReadAsItselfTest(unittest.TestCase):
    """E5: an interval that's told is read as itself, whatever call told it."""

    def check(self, answer):
        if answer[0] == 0:
            written = ends.text(*answer[1:])
            self.assertEqual(told_as(ends.read(written[2:])), told_as(answer))

    def test_what_the_calls_tell(self):
        for x, y in operands(71, 100):
            self.check(ends.make(*x))
            for op in range(8):
                self.check(ends.two(op, *x, *y))
            for op in range(4):
                self.check(ends.one(op, *x))
            for n in POWERS:
                self.check(ends.power(*x, n))
            for part in sets_of(ends.div2(*x, *y)):
                self.check([0, *part])

    def test_every_pair_of_all_kinds(self):
        for low in ALL_KINDS:
            for high in ALL_KINDS:
                self.check(ends.make(low, high))


# The interface: each function with its parameters.
INTERFACE = {
    "judge": "low high", "make": "low high", "two": "op low high other_low other_high", "one": "op low high",
    "power": "low high n", "div2": "low high other_low other_high", "relate": "op low high other_low other_high",
    "has": "low high number", "width": "low high", "middle": "low high", "text": "low high", "read": "text",
}


def every_call():
    """A call of every function with arguments of many kinds, refused ones among them."""
    calls = []
    for x in SHAPES + WRONG:
        for y in (pair(-1, 3), LINE, NONE, WRONG[0]):
            calls += [("two", (op, *x, *y)) for op in (0, 3, 6, 7, 8)] + [("relate", (op, *x, *y)) for op in (0, 7, 8)]
            calls.append(("div2", (*x, *y)))
        calls += [(name, x) for name in ("judge", "make", "width", "middle", "text")]
        calls += [("one", (op, *x)) for op in range(5)] + [("power", (*x, n)) for n in (-65, -1, 0, 3, 65)]
        calls += [("has", (*x, number)) for number in (0, at(1), PLUS_INFINITE, EMPTY)]
    calls += [("read", (codes_of(words),)) for words in ("", "empty", "1", "[1, 2]", "[2, 1]", "0.1e5", "0x1p", "inf")]
    return calls


class ClosingWordsTest(unittest.TestCase):
    def test_names_and_arguments(self):
        for name, given in INTERFACE.items():
            parameters = inspect.signature(getattr(ends, name)).parameters
            self.assertEqual(" ".join(parameters), given, name)
            for parameter in parameters.values():
                self.assertIs(parameter.default, inspect.Parameter.empty, name)

    def test_by_name(self):
        x = {"low": at(1), "high": at(2)}
        y = {"other_low": at(-1), "other_high": at(3)}
        self.assertEqual(ends.two(op=ADD, **x, **y), [0, *pair(0, 5)])
        self.assertEqual(ends.power(n=3, **x), [0, *pair(1, 8)])
        self.assertEqual(ends.has(number=at(1), **x), [0, 1])
        self.assertEqual(ends.div2(**x, **y)[:2], [0, 2])
        self.assertEqual(ends.relate(op=1, **x, **y), [0, 1])
        self.assertEqual(ends.one(op=NEG, **x), [0, *pair(-2, -1)])
        self.assertEqual(ends.read(text=codes_of("1")), [0, *pair(1, 1)])
        for name in ("judge", "make", "width", "middle", "text"):
            self.assertEqual(getattr(ends, name)(**x)[0], 0)

    def test_answers_are_lists_of_int_and_refusals_begin_below_zero(self):
        for name, given in every_call():
            self.assertIsNone(fault_of_answer(getattr(ends, name), given), (name, given))
            answer = getattr(ends, name)(*given)
            if answer[0] != 0:
                self.assertIn(answer[0], (-1, -2, -5), (name, given))
                self.assertEqual(len(answer), 2 if name == "read" and answer[0] == -2 else 1, (name, given))

    def test_each_call_is_as_if_for_the_first_time(self):
        calls = every_call()
        first = [getattr(ends, name)(*given) for name, given in calls]
        mixed = list(range(len(calls)))
        random.Random(72).shuffle(mixed)
        for spot in mixed:
            name, given = calls[spot]
            self.assertEqual(getattr(ends, name)(*given), first[spot], (name, given))

    def test_what_is_handed_in_stays_as_it_was(self):
        for words in ("", "empty", "[1, 2]", "[2, 1]", "0.1e5", "[1,2]", "9" * 8192, "9" * 9000):
            codes = codes_of(words)
            ends.read(codes)
            self.assertEqual(codes, codes_of(words))
            self.assertIsNot(ends.read(codes), codes)

    def test_nothing_is_printed(self):
        printed = io.StringIO()
        with contextlib.redirect_stdout(printed), contextlib.redirect_stderr(printed):
            for name, given in every_call():
                getattr(ends, name)(*given)
        self.assertEqual(printed.getvalue(), "")

    def test_long_texts_need_no_deep_calls(self):
        kept = sys.getrecursionlimit()
        deep = len(inspect.stack())
        answers = []
        sys.setrecursionlimit(deep + 40)
        try:
            for words in ("1" * 8192, "0." + "3" * 8190, "[" + "1" * 8191, "0x" + "f" * 8190):
                answers.append(ends.read(codes_of(words))[0])
        finally:
            sys.setrecursionlimit(kept)
        self.assertEqual(answers, [0, 0, -2, 0])


if __name__ == "__main__":
    unittest.main()

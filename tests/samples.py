"""Intervals of many shapes, and many by chance that's always the same, for the tests."""

from fractions import Fraction

from oracle import (
    ALL_KINDS, EMPTY, GREATEST, GREATEST_SMALL, LAST_BITS, LEAST_NORMAL, LEAST_SMALL, MINUS_INFINITE, MINUS_ZERO,
    PLUS_INFINITE, at, bits_of, is_finite, is_interval, kind, minus, next_above, next_below, value,
)

NONE = (EMPTY, EMPTY)
LINE = (MINUS_INFINITE, PLUS_INFINITE)
ABOVE = (0, PLUS_INFINITE)
BELOW = (MINUS_INFINITE, 0)
ZERO = (0, 0)
NEARLY_SMALL = 0xC000000000000000
SAME_BUT_NORMAL = bits_of(0, 1, 0xC000000000000000)
THIRD_DOWN = 0x3FFDAAAAAAAAAAAAAAAA
THIRD_UP = 0x3FFDAAAAAAAAAAAAAAAB


def pair(low, high):
    return at(low), at(high)


# Of every shape an interval can have: on either side of 0, with it, bounded and not, at the edges of the format.
SHAPES = [
    NONE, ZERO, (MINUS_ZERO, 0), (MINUS_ZERO, MINUS_ZERO), LINE, ABOVE, BELOW,
    (MINUS_ZERO, PLUS_INFINITE), (MINUS_INFINITE, MINUS_ZERO),
    pair(1, 1), pair(-1, -1), pair(3, 3), pair(-3, -3), pair(1, 2), pair(-2, -1), pair(-1, 3), pair(-3, 7),
    pair(0, 2), pair(-2, 0), (MINUS_ZERO, at(3)), (at(-3), MINUS_ZERO), pair(Fraction(1, 2), 5),
    (at(1), PLUS_INFINITE), (at(-1), PLUS_INFINITE), (MINUS_INFINITE, at(1)), (MINUS_INFINITE, at(-1)),
    (THIRD_DOWN, THIRD_UP), (minus(THIRD_UP), minus(THIRD_DOWN)), (minus(THIRD_UP), at(10)),
    (GREATEST, GREATEST), (minus(GREATEST), minus(GREATEST)), (minus(GREATEST), GREATEST), (GREATEST, PLUS_INFINITE),
    (MINUS_INFINITE, minus(GREATEST)), (at(1), GREATEST), (LEAST_SMALL, LEAST_SMALL), (0, LEAST_SMALL),
    (minus(LEAST_SMALL), MINUS_ZERO), (minus(LEAST_SMALL), LEAST_SMALL), (minus(LEAST_SMALL), minus(LEAST_SMALL)),
    (LEAST_SMALL, GREATEST), (minus(GREATEST), minus(LEAST_SMALL)), (LEAST_SMALL, GREATEST_SMALL),
    (GREATEST_SMALL, LEAST_NORMAL), (NEARLY_SMALL, NEARLY_SMALL), (SAME_BUT_NORMAL, NEARLY_SMALL),
    (minus(NEARLY_SMALL), LEAST_SMALL), (minus(NEARLY_SMALL), minus(NEARLY_SMALL)), (NEARLY_SMALL, at(1)),
    (LEAST_NORMAL, PLUS_INFINITE), (at(1), next_above(at(1))), (next_below(at(1)), at(1)),
    (next_below(at(-1)), at(Fraction(-1, 4))), (LEAST_SMALL, PLUS_INFINITE),
]

# Pairs that are no interval.
WRONG = [
    pair(2, 1), (0, MINUS_ZERO), (EMPTY, at(1)), (at(1), EMPTY), (PLUS_INFINITE, PLUS_INFINITE),
    (MINUS_INFINITE, MINUS_INFINITE), (LAST_BITS, LAST_BITS), (bits_of(0, 5, 1), at(1)), (at(1), PLUS_INFINITE + 1),
]


def told_as(numbers):
    return [f"{number:020X}" for number in numbers]


def numbers_of(source, count):
    """Finite numbers and both infinite ones, many of them near an edge or of few digits."""
    found = [bits for bits in ALL_KINDS if is_finite(bits) or kind(bits) == "infinite"]
    while len(found) < count:
        exponent = source.choice([0, 1, 2, 0x3FFE, 0x3FFF, 0x4000, 0x7FFD, 0x7FFE, source.randrange(1, 0x7FFF)])
        last = (1 << 63) - 1 - source.getrandbits(2)
        significand = source.choice([source.getrandbits(63), source.getrandbits(3) << 60, last])
        if exponent or source.getrandbits(1):
            significand |= 1 << 63
        found.append(bits_of(source.getrandbits(1), exponent, significand))
    return found


def intervals_of_all_kinds():
    return [(low, high) for low in ALL_KINDS for high in ALL_KINDS if is_interval(low, high)]


def intervals_of(source, count):
    numbers = numbers_of(source, 300)
    found = []
    while len(found) < count:
        ends = source.choice(numbers), source.choice(numbers)
        if is_interval(*ends):
            found.append(ends)
    return found


def part_of(source, x, numbers):
    """A part of X, with finite ends."""
    inside = [bits for bits in numbers if is_finite(bits) and value(x[0]) <= value(bits) <= value(x[1])]
    inside.extend(bits for bits in x if is_finite(bits))
    ends = [source.choice(inside), source.choice(inside)]
    return min(ends, key=value), max(ends, key=value)


def is_within(part, whole):
    """Whether a told part, by its two ends, is within a told whole."""
    if part[0] == EMPTY:
        return True
    return whole[0] != EMPTY and value(whole[0]) <= value(part[0]) and value(part[1]) <= value(whole[1])


def fault_of_answer(call, given):
    """What keeps a call's answer from being a fresh list of whole numbers, the same each time; None if nothing."""
    answer = call(*given)
    if type(answer) is not list or [type(part) for part in answer] != [int] * len(answer):
        return "no list of whole numbers"
    kept = list(answer)
    answer.clear()
    return None if call(*given) == kept else "another answer"

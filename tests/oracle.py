"""What the document says of extended numbers, written a second time over fractions, for the tests."""

import math
from fractions import Fraction

INFINITE = math.inf
EMPTY = 0xFFFFC000000000000000
PLUS_INFINITE = 0x7FFF8000000000000000
MINUS_INFINITE = 0xFFFF8000000000000000
MINUS_ZERO = 1 << 79
GREATEST = 0x7FFEFFFFFFFFFFFFFFFF
LEAST_SMALL = 1
GREATEST_SMALL = (1 << 63) - 1
LEAST_NORMAL = 1 << 64 | 1 << 63
LAST_BITS = (1 << 80) - 1


def bits_of(sign, exponent, significand):
    return sign << 79 | exponent << 64 | significand


def minus(bits):
    return bits ^ MINUS_ZERO


def kind(bits):
    exponent = bits >> 64 & 0x7FFF
    significand = bits & 0xFFFFFFFFFFFFFFFF
    highest = significand >> 63
    if exponent == 0:
        if significand == 0:
            return "zero"
        return "nearly small" if highest else "small"
    if not highest:
        return "odd"
    if exponent != 0x7FFF:
        return "normal"
    if significand == 1 << 63:
        return "infinite"
    return "quiet" if significand >> 62 & 1 else "loud"


def is_finite(bits):
    return kind(bits) in ("zero", "small", "nearly small", "normal")


def value(bits):
    """A number's value: a Fraction, or an infinite float."""
    sign = -1 if bits >> 79 else 1
    if kind(bits) == "infinite":
        return sign * INFINITE
    if not is_finite(bits):
        raise ValueError("no number")
    exponent = (bits >> 64 & 0x7FFF) or 1
    return sign * (bits & 0xFFFFFFFFFFFFFFFF) * Fraction(2) ** (exponent - 16382 - 64)


def at(wanted):
    """The bits of the number (small or normal or +0) that has just this value."""
    if wanted in (INFINITE, -INFINITE):
        return PLUS_INFINITE if wanted > 0 else MINUS_INFINITE
    wanted = Fraction(wanted)
    if wanted == 0:
        return 0
    size = abs(wanted)
    exponent = 1
    significand = size / Fraction(2) ** (1 - 16382 - 64)
    if significand >= 1 << 64:
        power = size.numerator.bit_length() - size.denominator.bit_length()
        if size < Fraction(2) ** power:
            power -= 1
        exponent = power + 16383
        significand = size / Fraction(2) ** (power - 63)
    if significand.denominator != 1:
        raise ValueError("no extended number has this value")
    if significand < 1 << 63:
        exponent = 0
    found = bits_of(wanted < 0, exponent, significand.numerator)
    if value(found) != wanted:
        raise ValueError("no extended number has this value")
    return found


def is_interval(low, high):
    """What the second part of the document says of a pair, without the empty one."""
    numbers = ("zero", "small", "nearly small", "normal", "infinite")
    if kind(low) not in numbers or kind(high) not in numbers:
        return False
    if low == PLUS_INFINITE or high == MINUS_INFINITE:
        return False
    if value(low) == value(high) == 0:
        return not (low == 0 and high == MINUS_ZERO)
    return value(low) <= value(high)


# Bits of every kind and every edge of a kind, each to be taken with either sign.
SIZES = [
    0,
    LEAST_SMALL, 2, 0x123456789ABCDEF, GREATEST_SMALL - 1, GREATEST_SMALL,
    1 << 63, (1 << 63) + 1, 0xC000000000000000, (1 << 64) - 1,
    LEAST_NORMAL, LEAST_NORMAL + 1, bits_of(0, 1, 0xC000000000000000), bits_of(0, 1, (1 << 64) - 1),
    bits_of(0, 2, 1 << 63), bits_of(0, 0x3FFE, (1 << 64) - 1),
    bits_of(0, 0x3FFF, 1 << 63), bits_of(0, 0x3FFF, (1 << 63) + 1), bits_of(0, 0x4000, 0xC000000000000000),
    GREATEST - 1, GREATEST,
    PLUS_INFINITE,
    PLUS_INFINITE + 1, bits_of(0, 0x7FFF, 0xBFFFFFFFFFFFFFFF),
    bits_of(0, 0x7FFF, 0xC000000000000000), bits_of(0, 0x7FFF, 0xC000000000000001), bits_of(0, 0x7FFF, (1 << 64) - 1),
    bits_of(0, 1, 0), bits_of(0, 1, 1), bits_of(0, 0x3FFF, 0), bits_of(0, 0x3FFF, (1 << 63) - 1),
    bits_of(0, 0x7FFE, (1 << 63) - 1), bits_of(0, 0x7FFF, 0), bits_of(0, 0x7FFF, 1), bits_of(0, 0x7FFF, (1 << 63) - 1),
]
ALL_KINDS = SIZES + [minus(size) for size in SIZES]

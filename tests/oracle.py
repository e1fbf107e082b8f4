"""What the document says of extended numbers, written a second time over fractions, for the tests."""

import functools
import math
from fractions import Fraction

INFINITE = math.inf
EMPTY = 0xFFFFC000000000000000
PLUS_INFINITE = 0x7FFF8000000000000000
MINUS_INFINITE = 0xFFFF8000000000000000
MINUS_ZERO = 1 << 79
GREATEST = 0x7FFEFFFFFFFFFFFFFFFF
LEAST_SMALL = 1
GREATEST_SMALL = (1 << 63) - 1
LEAST_NORMAL = 1 << 64 | 1 << 63
LAST_BITS = (1 << 80) - 1


def bits_of(sign, exponent, significand):
    return sign << 79 | exponent << 64 | significand


def minus(bits):
    return bits ^ MINUS_ZERO


def kind(bits):
    exponent = bits >> 64 & 0x7FFF
    significand = bits & 0xFFFFFFFFFFFFFFFF
    highest = significand >> 63
    if exponent == 0:
        if significand == 0:
            return "zero"
        return "nearly small" if highest else "small"
    if not highest:
        return "odd"
    if exponent != 0x7FFF:
        return "normal"
    if significand == 1 << 63:
        return "infinite"
    return "quiet" if significand >> 62 & 1 else "loud"


def is_finite(bits):
    return kind(bits) in ("zero", "small", "nearly small", "normal")


@functools.lru_cache(maxsize=None)
def value(bits):
    """A number's value: a Fraction, or an infinite float."""
    sign = -1 if bits >> 79 else 1
    if kind(bits) == "infinite":
        return sign * INFINITE
    if not is_finite(bits):
        raise ValueError("no number")
    exponent = (bits >> 64 & 0x7FFF) or 1
    return sign * (bits & 0xFFFFFFFFFFFFFFFF) * Fraction(2) ** (exponent - 16382 - 64)


def at(wanted):
    """The bits of the number (small or normal or +0) that has just this value."""
    if wanted in (INFINITE, -INFINITE):
        return PLUS_INFINITE if wanted > 0 else MINUS_INFINITE
    wanted = Fraction(wanted)
    if wanted == 0:
        return 0
    size = abs(wanted)
    exponent = 1
    significand = size / Fraction(2) ** (1 - 16382 - 64)
    if significand >= 1 << 64:
        power = size.numerator.bit_length() - size.denominator.bit_length()
        if size < Fraction(2) ** power:
            power -= 1
        exponent = power + 16383
        significand = size / Fraction(2) ** (power - 63)
    if significand.denominator != 1:
        raise ValueError("no extended number has this value")
    if significand < 1 << 63:
        exponent = 0
    found = bits_of(wanted < 0, exponent, significand.numerator)
    if value(found) != wanted:
        raise ValueError("no extended number has this value")
    return found


def is_interval(low, high):
    """What the second part of the document says of a pair, without the empty one."""
    numbers = ("zero", "small", "nearly small", "normal", "infinite")
    if kind(low) not in numbers or kind(high) not in numbers:
        return False
    if low == PLUS_INFINITE or high == MINUS_INFINITE:
        return False
    if value(low) == value(high) == 0:
        return not (low == 0 and high == MINUS_ZERO)
    return value(low) <= value(high)


# Bits of every kind and every edge of a kind, each to be taken with either sign.
SIZES = [
    0,
    LEAST_SMALL, 2, 0x123456789ABCDEF, GREATEST_SMALL - 1, GREATEST_SMALL,
    1 << 63, (1 << 63) + 1, 0xC000000000000000, (1 << 64) - 1,
    LEAST_NORMAL, LEAST_NORMAL + 1, bits_of(0, 1, 0xC000000000000000), bits_of(0, 1, (1 << 64) - 1),
    bits_of(0, 2, 1 << 63), bits_of(0, 0x3FFE, (1 << 64) - 1),
    bits_of(0, 0x3FFF, 1 << 63), bits_of(0, 0x3FFF, (1 << 63) + 1), bits_of(0, 0x4000, 0xC000000000000000),
    GREATEST - 1, GREATEST,
    PLUS_INFINITE,
    PLUS_INFINITE + 1, bits_of(0, 0x7FFF, 0xBFFFFFFFFFFFFFFF),
    bits_of(0, 0x7FFF, 0xC000000000000000), bits_of(0, 0x7FFF, 0xC000000000000001), bits_of(0, 0x7FFF, (1 << 64) - 1),
    bits_of(0, 1, 0), bits_of(0, 1, 1), bits_of(0, 0x3FFF, 0), bits_of(0, 0x3FFF, (1 << 63) - 1),
    bits_of(0, 0x7FFE, (1 << 63) - 1), bits_of(0, 0x7FFF, 0), bits_of(0, 0x7FFF, 1), bits_of(0, 0x7FFF, (1 << 63) - 1),
]
ALL_KINDS = SIZES + [minus(size) for size in SIZES]


# Told intervals: their ends step by step, and the bounds of what an op makes, over fractions.


def next_above(bits):
    """The least told number above a told one; plus infinite above the greatest."""
    if bits == MINUS_INFINITE:
        return minus(GREATEST)
    if bits >> 79:
        return minus_told(next_inward(minus(bits)))
    if bits == GREATEST:
        return PLUS_INFINITE
    if bits == GREATEST_SMALL:
        return LEAST_NORMAL
    if bits & 0xFFFFFFFFFFFFFFFF == 0xFFFFFFFFFFFFFFFF:
        return (bits >> 64) + 1 << 64 | 1 << 63
    return bits + 1


def next_inward(size):
    """The greatest told number below a finite one above 0."""
    if size == LEAST_NORMAL:
        return GREATEST_SMALL
    if size >> 64 and size & 0xFFFFFFFFFFFFFFFF == 1 << 63:
        return (size >> 64) - 1 << 64 | 0xFFFFFFFFFFFFFFFF
    return size - 1


def minus_told(bits):
    return minus(bits) if bits else 0


def next_below(bits):
    return minus_told(next_above(minus_told(bits)))


def product(x, y):
    """Of 0 and an infinite one 0; fractions beyond all floats are kept exact."""
    if x == 0 or y == 0:
        return Fraction(0)
    if x in (INFINITE, -INFINITE) or y in (INFINITE, -INFINITE):
        return INFINITE if (x > 0) == (y > 0) else -INFINITE
    return x * y


def total(x, y):
    for part in (x, y):
        if part in (INFINITE, -INFINITE):
            return part
    return x + y


def corners(x, y):
    products = [product(p, q) for p in x for q in y]
    return min(products), max(products)


def inverse(part):
    """1 over what's reached: infinite of 0, 0 of infinite ones."""
    if part == 0:
        return INFINITE
    return Fraction(0) if part == INFINITE else 1 / part


def quotients(x, y):
    """The divisors above 0 and those below it, turned over each by itself, then multiplied."""
    found = []
    if y[1] > 0:
        divisors = max(y[0], Fraction(0)), y[1]
        found.extend(corners(x, (inverse(divisors[1]), inverse(divisors[0]))))
    if y[0] < 0:
        divisors = max(-y[1], Fraction(0)), -y[0]
        found.extend(corners((-x[1], -x[0]), (inverse(divisors[1]), inverse(divisors[0]))))
    return (min(found), max(found)) if found else None


def shared(x, y):
    low, high = max(x[0], y[0]), min(x[1], y[1])
    return (low, high) if low <= high else None


TWO = [
    lambda x, y: (total(x[0], y[0]), total(x[1], y[1])),
    lambda x, y: (total(x[0], -y[1]), total(x[1], -y[0])),
    corners,
    quotients,
    lambda x, y: (min(x[0], y[0]), min(x[1], y[1])),
    lambda x, y: (max(x[0], y[0]), max(x[1], y[1])),
    lambda x, y: (min(x[0], y[0]), max(x[1], y[1])),
    shared,
]


def bounds(low, high):
    """An interval's bounds, or None of the empty one."""
    return None if low == EMPTY else (value(low), value(high))


def bounds_of_two(op, x, y):
    """The greatest lower and the least upper bound of what op makes of two pairs of bounds (None: empty)."""
    if x is None or y is None:
        return (x or y) if op == 6 else None
    return TWO[op](x, y)


def bounds_of_one(op, x):
    """The same of square, abs and neg."""
    if x is None:
        return None
    if op == 3:
        return -x[1], -x[0]
    sizes = [abs(x[0]), abs(x[1])] + ([Fraction(0)] if x[0] <= 0 <= x[1] else [])
    if op == 1:
        sizes = [product(size, size) for size in sizes]
    return min(sizes), max(sizes)


def power_of_size(size, n):
    """A size, perhaps infinite, to the power of n, not 0; of what's near to 0, what powers below 0 come to."""
    if n < 0:
        return inverse(power_of_size(size, -n))
    return INFINITE if size == INFINITE else size ** n


def bounds_of_power(n, x):
    """The numbers that aren't below 0 and those that aren't above it, raised each by themselves."""
    if x is None:
        return None
    if n == 0:
        return Fraction(1), Fraction(1)
    found = []
    for low, high, sign in ((x[0], x[1], 1), (-x[1], -x[0], -1 if n % 2 else 1)):
        if high > 0 or high == 0 and n > 0:
            found.extend(sign * power_of_size(size, n) for size in (max(low, Fraction(0)), high))
    return (min(found), max(found)) if found else None


def bounds_of_div2(x, y):
    """The bounds of each set that the quotients are told as."""
    if x is not None and y is not None and y[0] < 0 < y[1] and not x[0] <= 0 <= x[1]:
        return sorted([quotients(x, (y[0], Fraction(0))), quotients(x, (Fraction(0), y[1]))])
    found = bounds_of_two(3, x, y)
    return [] if found is None else [found]


def is_told(bits):
    return bits == 0 or kind(bits) in ("small", "normal", "infinite")


def fault_of_hull(answer, wanted):
    """What keeps an answer from being the hull of a set with these bounds (None: of no number); None if nothing."""
    if [type(part) for part in answer] != [int] * 3 or answer[0] != 0:
        return "no interval"
    if wanted is None:
        return None if answer[1:] == [EMPTY, EMPTY] else "not empty"
    low, high = answer[1:]
    if not (is_told(low) and is_told(high)) or low == PLUS_INFINITE or high == MINUS_INFINITE:
        return "not told"
    if value(low) > wanted[0] or value(high) < wanted[1]:
        return "something is outside"
    if value(next_above(low)) <= wanted[0] or value(next_below(high)) >= wanted[1]:
        return "not the least"
    return None


def square_of(bits):
    return INFINITE if bits == PLUS_INFINITE else value(bits) ** 2


def fault_of_root(answer, operand):
    """Like fault_of_hull, but by squares, since a root may be no fraction."""
    if operand is None or operand[1] < 0:
        return fault_of_hull(answer, None)
    low, high = answer[1:]
    if not (is_told(low) and is_told(high)) or low >> 79 or high >> 79 or low == PLUS_INFINITE:
        return "not told"
    least = max(operand[0], 0)
    if square_of(low) > least or square_of(high) < operand[1]:
        return "something is outside"
    if square_of(next_above(low)) <= least:
        return "not the least"
    if high and square_of(next_below(high)) >= operand[1]:
        return "not the least"
    return None


def fault_of_number(answer):
    if [type(part) for part in answer] != [int] * 2 or answer[0] != 0:
        return "no number"
    return None if is_told(answer[1]) else "not told"


def fault_of_width(answer, x):
    """What keeps an answer from being the least number that isn't below hi less lo; None if nothing."""
    if fault_of_number(answer):
        return fault_of_number(answer)
    wanted = total(x[1], -x[0])
    if value(answer[1]) < wanted:
        return "too narrow"
    return "not the least" if answer[1] and value(next_below(answer[1])) >= wanted else None


def fault_of_middle(answer, x):
    """What keeps an answer from being as near as can be to half of lo and hi together; None if nothing."""
    if fault_of_number(answer):
        return fault_of_number(answer)
    found = answer[1]
    if INFINITE in x or -INFINITE in x:
        stand_ins = {(True, True): 0, (False, True): GREATEST, (True, False): minus(GREATEST)}
        return None if found == stand_ins[x[0] == -INFINITE, x[1] == INFINITE] else "another stand-in"
    if not is_finite(found):
        return "not finite"
    wanted = (x[0] + x[1]) / 2
    away = abs(value(found) - wanted)
    for other in filter(is_finite, (next_below(found), next_above(found))):
        if abs(value(other) - wanted) < away:
            return "another is nearer"
        if abs(value(other) - wanted) == away and found % 2:
            return "of two as near the odd one"
    return None

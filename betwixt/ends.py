"""The calls: intervals handed in and answered by the bits of their ends."""

from betwixt.extended import EMPTY, MINUS_INFINITE, PLUS_INFINITE, high_end, is_number, low_end, opposite
from betwixt.extended import over, place, plus, root, times, told, value_of

JOIN = 6


def are_ends(low, high):
    """Whether two numbers are the ends of an interval."""
    if low == PLUS_INFINITE or high == MINUS_INFINITE:
        return False
    return place(low) <= place(high)


def is_interval(low, high):
    """Whether a pair is an interval, the empty one too."""
    if low == EMPTY and high == EMPTY:
        return True
    return is_number(low) and is_number(high) and are_ends(low, high)


def lesser(number, other):
    """The lesser of two told numbers."""
    return min(number, other, key=place)


def greater(number, other):
    """The greater of two told numbers."""
    return max(number, other, key=place)


# The ops take and answer told ends, of intervals that aren't empty (join takes empty ones too).


def add(low, high, other_low, other_high):
    """All sums."""
    lowest = plus(value_of(low), value_of(other_low))
    highest = plus(value_of(high), value_of(other_high))
    return [low_end(lowest), high_end(highest)]


def sub(low, high, other_low, other_high):
    """All differences."""
    return add(low, high, opposite(other_high), opposite(other_low))


def mul(low, high, other_low, other_high):
    """All products: the utmost ones are among those of the ends."""
    products = [
        times(value_of(low), value_of(other_low)),
        times(value_of(low), value_of(other_high)),
        times(value_of(high), value_of(other_low)),
        times(value_of(high), value_of(other_high)),
    ]
    lowest = min([low_end(product) for product in products], key=place)
    highest = max([high_end(product) for product in products], key=place)
    return [lowest, highest]


def div(low, high, other_low, other_high):
    """All quotients by numbers other than 0."""
    if other_low == 0 and other_high == 0:
        return [EMPTY, EMPTY]
    if place(other_low) < 0 and place(other_high) > 0:
        return div_around_zero(low, high)
    if place(other_low) < 0:
        return div_above_zero(opposite(high), opposite(low), opposite(other_high), opposite(other_low))
    return div_above_zero(low, high, other_low, other_high)


def div_around_zero(low, high):
    """All quotients by numbers on both sides of 0."""
    if low == 0 and high == 0:
        return [0, 0]
    return [MINUS_INFINITE, PLUS_INFINITE]


def div_above_zero(low, high, other_low, other_high):
    """All quotients by numbers above 0; other_low may be 0."""
    # What's below 0 goes down as its divisor falls, what's above 0 goes up.
    under_low = other_low if place(low) < 0 else other_high
    under_high = other_high if place(high) < 0 else other_low
    lowest = over(value_of(low), value_of(under_low))
    highest = over(value_of(high), value_of(under_high))
    return [low_end(lowest), high_end(highest)]


def least(low, high, other_low, other_high):
    """The lesser one of all two."""
    return [lesser(low, other_low), lesser(high, other_high)]


def greatest(low, high, other_low, other_high):
    """The greater one of all two."""
    return [greater(low, other_low), greater(high, other_high)]


def join(low, high, other_low, other_high):
    """Both sets together; either may be empty."""
    if low == EMPTY:
        return [other_low, other_high]
    if other_low == EMPTY:
        return [low, high]
    return [lesser(low, other_low), greater(high, other_high)]


def meet(low, high, other_low, other_high):
    """What's in both sets."""
    lowest = greater(low, other_low)
    highest = lesser(high, other_high)
    if place(lowest) > place(highest):
        return [EMPTY, EMPTY]
    return [lowest, highest]


def sqrt(low, high):
    """The square roots of all that aren't below 0."""
    if place(high) < 0:
        return [EMPTY, EMPTY]
    lowest = root(value_of(greater(low, 0)))
    return [low_end(lowest), high_end(root(value_of(high)))]


def square(low, high):
    """All squares."""
    sizes = absolute(low, high)
    lowest = value_of(sizes[0])
    highest = value_of(sizes[1])
    return [low_end(times(lowest, lowest)), high_end(times(highest, highest))]


def absolute(low, high):
    """All without their sign."""
    if place(low) >= 0:
        return [low, high]
    if place(high) <= 0:
        return [opposite(high), opposite(low)]
    return [0, greater(opposite(low), high)]


def neg(low, high):
    """Minus all."""
    return [opposite(high), opposite(low)]


TWO = (add, sub, mul, div, least, greatest, join, meet)
ONE = (sqrt, square, absolute, neg)


def judge(low, high):
    """1 of an interval that isn't empty, 0 of the empty one."""
    if not is_interval(low, high):
        return [-2]
    return [0, 0 if low == EMPTY else 1]


def make(low, high):
    """The interval of these ends, told."""
    if not (is_number(low) and is_number(high)):
        return [-2]
    if not are_ends(low, high):
        return [-5]
    return [0, told(low), told(high)]


def two(op, low, high, other_low, other_high):
    """The hull of what an op makes of two intervals: add, sub, mul, div, min, max, join, meet."""
    if op >= len(TWO):
        return [-1]
    if not (is_interval(low, high) and is_interval(other_low, other_high)):
        return [-2]
    if op != JOIN and (low == EMPTY or other_low == EMPTY):
        return [0, EMPTY, EMPTY]
    return [0] + TWO[op](told(low), told(high), told(other_low), told(other_high))


def one(op, low, high):
    """The hull of what an op makes of one interval: sqrt, square, abs, neg."""
    if op >= len(ONE):
        return [-1]
    if not is_interval(low, high):
        return [-2]
    if low == EMPTY:
        return [0, EMPTY, EMPTY]
    return [0] + ONE[op](told(low), told(high))

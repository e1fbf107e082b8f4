"""The calls: intervals handed in and answered by the bits of their ends."""

from betwixt.extended import EMPTY, GREATEST, MINUS_INFINITE, PLUS_INFINITE, Value, high_end, is_number, low_end
from betwixt.extended import nearest, opposite, over, place, plus, raised, root, times, told, value_of
from betwixt.reading import MOST_BYTES, Fault, can_be_ends, ends_said, value_beside
from betwixt.relations import RELATIONS, are_related
from betwixt.writing import interval_text

JOIN = 6
LEAST_POWER = -64
GREATEST_POWER = 64


def are_ends(low, high):
    """Whether two numbers are the ends of an interval."""
    if low == PLUS_INFINITE or high == MINUS_INFINITE:
        return False
    return place(low) <= place(high)


def is_interval(low, high):
    """Whether a pair is an interval, the empty one too."""
    if low == EMPTY and high == EMPTY:
        return True
    return is_number(low) and is_number(high) and are_ends(low, high)


def lesser(number, other):
    """The lesser of two told numbers."""
    return min(number, other, key=place)


def greater(number, other):
    """The greater of two told numbers."""
    return max(number, other, key=place)


# The ops take and answer told ends, of intervals that aren't empty (join takes empty ones too).


def add(low, high, other_low, other_high):
    """All sums."""
    lowest = plus(value_of(low), value_of(other_low))
    highest = plus(value_of(high), value_of(other_high))
    return [low_end(lowest), high_end(highest)]


def sub(low, high, other_low, other_high):
    """All differences."""
    return add(low, high, opposite(other_high), opposite(other_low))


def mul(low, high, other_low, other_high):
    """All products: the utmost ones are among those of the ends."""
    products = [
        times(value_of(low), value_of(other_low)),
        times(value_of(low), value_of(other_high)),
        times(value_of(high), value_of(other_low)),
        times(value_of(high), value_of(other_high)),
    ]
    lowest = min([low_end(product) for product in products], key=place)
    highest = max([high_end(product) for product in products], key=place)
    return [lowest, highest]


def div(low, high, other_low, other_high):
    """All quotients by numbers other than 0."""
    if other_low == 0 and other_high == 0:
        return [EMPTY, EMPTY]
    if place(other_low) < 0 and place(other_high) > 0:
        return div_around_zero(low, high)
    if place(other_low) < 0:
        return div_above_zero(opposite(high), opposite(low), opposite(other_high), opposite(other_low))
    return div_above_zero(low, high, other_low, other_high)


def div_around_zero(low, high):
    """All quotients by numbers on both sides of 0."""
    if low == 0 and high == 0:
        return [0, 0]
    return [MINUS_INFINITE, PLUS_INFINITE]


def div_above_zero(low, high, other_low, other_high):
    """All quotients by numbers above 0; other_low may be 0."""
    # What's below 0 goes down as its divisor falls, what's above 0 goes up.
    under_low = other_low if place(low) < 0 else other_high
    under_high = other_high if place(high) < 0 else other_low
    lowest = over(value_of(low), value_of(under_low))
    highest = over(value_of(high), value_of(under_high))
    return [low_end(lowest), high_end(highest)]


def least(low, high, other_low, other_high):
    """The lesser one of all two."""
    return [lesser(low, other_low), lesser(high, other_high)]


def greatest(low, high, other_low, other_high):
    """The greater one of all two."""
    return [greater(low, other_low), greater(high, other_high)]


def join(low, high, other_low, other_high):
    """Both sets together; either may be empty."""
    if low == EMPTY:
        return [other_low, other_high]
    if other_low == EMPTY:
        return [low, high]
    return [lesser(low, other_low), greater(high, other_high)]


def meet(low, high, other_low, other_high):
    """What's in both sets."""
    lowest = greater(low, other_low)
    highest = lesser(high, other_high)
    if place(lowest) > place(highest):
        return [EMPTY, EMPTY]
    return [lowest, highest]


def sqrt(low, high):
    """The square roots of all that aren't below 0."""
    if place(high) < 0:
        return [EMPTY, EMPTY]
    lowest = root(value_of(greater(low, 0)))
    return [low_end(lowest), high_end(root(value_of(high)))]


def square(low, high):
    """All squares."""
    sizes = absolute(low, high)
    lowest = value_of(sizes[0])
    highest = value_of(sizes[1])
    return [low_end(times(lowest, lowest)), high_end(times(highest, highest))]


def absolute(low, high):
    """All without their sign."""
    if place(low) >= 0:
        return [low, high]
    if place(high) <= 0:
        return [opposite(high), opposite(low)]
    return [0, greater(opposite(low), high)]


def neg(low, high):
    """Minus all."""
    return [opposite(high), opposite(low)]


def power_above_zero(low, high, n):
    """All powers of numbers that aren't below 0; if n is below 0, not of 0, and high isn't 0."""
    if n >= 0:
        return [low_end(raised(value_of(low), n)), high_end(raised(value_of(high), n))]
    # Only the last step is rounded: one over the exact power of each end.
    lowest = over(Value(1, 0, False), raised(value_of(high), -n))
    highest = over(Value(1, 0, False), raised(value_of(low), -n))
    return [low_end(lowest), high_end(highest)]


def odd_power(low, high, n):
    """All powers with an odd n, which keep the sign."""
    if place(low) >= 0:
        return power_above_zero(low, high, n)
    below = power_above_zero(opposite(lesser(high, 0)), opposite(low), n)
    minus_below = neg(below[0], below[1])
    if place(high) <= 0:
        return minus_below
    above = power_above_zero(0, high, n)
    return join(minus_below[0], minus_below[1], above[0], above[1])


def power_of(low, high, n):
    """All powers; if n is below 0, of numbers other than 0."""
    if n < 0 and low == 0 and high == 0:
        return [EMPTY, EMPTY]
    if n % 2 == 1:
        return odd_power(low, high, n)
    sizes = absolute(low, high)
    return power_above_zero(sizes[0], sizes[1], n)


def div_apart(low, high, other_low, other_high):
    """The quotients below 0, then those above 0, of numbers all on one side of 0 by numbers on both."""
    by_below = div(low, high, other_low, 0)
    by_above = div(low, high, 0, other_high)
    if place(low) > 0:
        return by_below + by_above
    return by_above + by_below


def quotient_sets(low, high, other_low, other_high):
    """How many sets the quotients by numbers other than 0 are told as, then these."""
    without_zero = place(low) > 0 or place(high) < 0
    if without_zero and place(other_low) < 0 and place(other_high) > 0:
        return [2] + div_apart(low, high, other_low, other_high)
    quotients = div(low, high, other_low, other_high)
    return [0] if quotients[0] == EMPTY else [1] + quotients


def middle_of(low, high):
    """The number nearest to half of both ends together; of an unbounded one its stand-in."""
    if low == MINUS_INFINITE and high == PLUS_INFINITE:
        return 0
    if low == MINUS_INFINITE:
        return opposite(GREATEST)
    if high == PLUS_INFINITE:
        return GREATEST
    total = plus(value_of(low), value_of(high))
    return nearest(Value(total.whole, total.power - 1, False))


TWO = (add, sub, mul, div, least, greatest, join, meet)
ONE = (sqrt, square, absolute, neg)


def judge(low, high):
    """1 of an interval that isn't empty, 0 of the empty one."""
    if not is_interval(low, high):
        return [-2]
    return [0, 0 if low == EMPTY else 1]


def make(low, high):
    """The interval of these ends, told."""
    if not (is_number(low) and is_number(high)):
        return [-2]
    if not are_ends(low, high):
        return [-5]
    return [0, told(low), told(high)]


def two(op, low, high, other_low, other_high):
    """The hull of what an op makes of two intervals: add, sub, mul, div, min, max, join, meet."""
    if op >= len(TWO):
        return [-1]
    if not (is_interval(low, high) and is_interval(other_low, other_high)):
        return [-2]
    if op != JOIN and (low == EMPTY or other_low == EMPTY):
        return [0, EMPTY, EMPTY]
    return [0] + TWO[op](told(low), told(high), told(other_low), told(other_high))


def one(op, low, high):
    """The hull of what an op makes of one interval: sqrt, square, abs, neg."""
    if op >= len(ONE):
        return [-1]
    if not is_interval(low, high):
        return [-2]
    if low == EMPTY:
        return [0, EMPTY, EMPTY]
    return [0] + ONE[op](told(low), told(high))


def power(low, high, n):
    """The hull of the n-th powers of an interval."""
    if n < LEAST_POWER or n > GREATEST_POWER:
        return [-1]
    if not is_interval(low, high):
        return [-2]
    if low == EMPTY:
        return [0, EMPTY, EMPTY]
    return [0] + power_of(told(low), told(high), n)


def div2(low, high, other_low, other_high):
    """The quotients as so many hulls as they have: none, one, or one on either side of 0."""
    if not (is_interval(low, high) and is_interval(other_low, other_high)):
        return [-2]
    if low == EMPTY or other_low == EMPTY:
        return [0, 0]
    return [0] + quotient_sets(told(low), told(high), told(other_low), told(other_high))


def relate(op, low, high, other_low, other_high):
    """1 if a relation holds of two intervals: all less, some less, all and some at most, same, within, apart, inner."""
    if op >= len(RELATIONS):
        return [-1]
    if not (is_interval(low, high) and is_interval(other_low, other_high)):
        return [-2]
    holds = are_related(op, told(low), told(high), told(other_low), told(other_high))
    return [0, 1 if holds else 0]


def has(low, high, number):
    """1 if a number's value is in an interval."""
    if not (is_interval(low, high) and is_number(number)):
        return [-2]
    if low == EMPTY or number == PLUS_INFINITE or number == MINUS_INFINITE:
        return [0, 0]
    spot = place(told(number))
    return [0, 1 if place(told(low)) <= spot and spot <= place(told(high)) else 0]


def width(low, high):
    """How far the upper end is from the lower one, rounded up."""
    if not is_interval(low, high):
        return [-2]
    if low == EMPTY:
        return [-5]
    return [0, high_end(plus(value_of(high), value_of(opposite(told(low)))))]


def middle(low, high):
    """The number midway between the ends, rounded to the nearest."""
    if not is_interval(low, high):
        return [-2]
    if low == EMPTY:
        return [-5]
    return [0, middle_of(told(low), told(high))]


def text(low, high):
    """How many bytes an interval's text has, then they."""
    if not is_interval(low, high):
        return [-2]
    codes = [ord(sign) for sign in interval_text(low, high)]
    return [0, len(codes)] + codes


def read(text):
    """The least interval that holds what a text says, told."""
    if len(text) > MOST_BYTES:
        return [-1]
    try:
        ends = ends_said(text)
    except Fault as fault:
        return [-2, fault.spot]
    if len(ends) == 0:
        return [0, EMPTY, EMPTY]
    if not can_be_ends(ends[0], ends[1]):
        return [-5]
    return [0, low_end(value_beside(ends[0])), high_end(value_beside(ends[1]))]

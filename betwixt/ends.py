"""The calls: intervals handed in and answered by the bits of their ends."""

from betwixt.extended import EMPTY, MINUS_INFINITE, PLUS_INFINITE, is_number, place, told


def are_ends(low, high):
    """Whether two numbers are the ends of an interval."""
    if low == PLUS_INFINITE or high == MINUS_INFINITE:
        return False
    return place(low) <= place(high)


def is_interval(low, high):
    """Whether a pair is an interval, the empty one too."""
    if low == EMPTY and high == EMPTY:
        return True
    return is_number(low) and is_number(high) and are_ends(low, high)


def judge(low, high):
    """1 of an interval that isn't empty, 0 of the empty one."""
    if not is_interval(low, high):
        return [-2]
    return [0, 0 if low == EMPTY else 1]


def make(low, high):
    """The interval of these ends, told."""
    if not (is_number(low) and is_number(high)):
        return [-2]
    if not are_ends(low, high):
        return [-5]
    return [0, told(low), told(high)]

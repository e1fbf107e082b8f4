"""How two intervals lie to one another, by their told ends."""

from betwixt.extended import EMPTY, MINUS_INFINITE, PLUS_INFINITE, place

SAME = 4
# The relations that ask for some number of each, and those that ask where the first one's numbers lie in the second.
SOME = (1, 3)
INSIDE = (5, 7)

# No lower end is plus infinite, no upper end minus infinite: so the order of the ends serves for unbounded sides
# too, but where is_within_inner asks for less at an end that both may have.


def all_less(low, high, other_low, other_high):
    """Whether every x is less than every y."""
    return place(high) < place(other_low)


def some_less(low, high, other_low, other_high):
    """Whether some x is less than some y."""
    return place(low) < place(other_high)


def all_at_most(low, high, other_low, other_high):
    """Whether every x is at most every y."""
    return place(high) <= place(other_low)


def some_at_most(low, high, other_low, other_high):
    """Whether some x is at most some y."""
    return place(low) <= place(other_high)


def is_same(low, high, other_low, other_high):
    """Whether both are the same set; either may be empty."""
    return low == other_low and high == other_high


def is_within(low, high, other_low, other_high):
    """Whether every x is in Y."""
    return place(other_low) <= place(low) and place(high) <= place(other_high)


def is_apart(low, high, other_low, other_high):
    """Whether nothing is in both."""
    return place(high) < place(other_low) or place(other_high) < place(low)


def is_within_inner(low, high, other_low, other_high):
    """Whether every x has numbers of Y on both sides."""
    above_low = other_low == MINUS_INFINITE or place(other_low) < place(low)
    below_high = other_high == PLUS_INFINITE or place(high) < place(other_high)
    return above_low and below_high


RELATIONS = (all_less, some_less, all_at_most, some_at_most, is_same, is_within, is_apart, is_within_inner)


def are_related(op, low, high, other_low, other_high):
    """Whether a relation holds of two intervals: every one of none is so, some one of none isn't."""
    if op != SAME and low == EMPTY:
        return op not in SOME
    if op != SAME and other_low == EMPTY:
        return op not in SOME and op not in INSIDE
    return RELATIONS[op](low, high, other_low, other_high)

"""The texts of intervals, their ends by digits of sixteen."""

from betwixt.extended import BEYOND, DIGITS, EMPTY, SIGN, significand_of, value_of

SIXTEEN = "0123456789abcdef"


def behind_one(fraction):
    """The point and the digits of sixteen of a fraction of 64 digits of two; nothing of 0."""
    digits = "".join([SIXTEEN[(fraction >> shift) & 15] for shift in range(60, -1, -4)]).rstrip("0")
    return "" if digits == "" else "." + digits


def size_text(bits):
    """The text of a number without its sign."""
    value = value_of(bits)
    if value.infinite:
        return "inf"
    whole = significand_of(bits)
    if whole == 0:
        return "0x0p0"
    # Small ones, too, are told with a 1 as their first digit.
    length = whole.bit_length()
    fraction = (whole << (DIGITS + 1 - length)) - BEYOND
    return "0x1" + behind_one(fraction) + "p" + str(value.power + length - 1)


def number_text(bits):
    """The text of a number."""
    return ("-" if bits >= SIGN else "") + size_text(bits)


def interval_text(low, high):
    """The text of an interval; its ends are told as they are."""
    if low == EMPTY:
        return "empty"
    return "[" + number_text(low) + ", " + number_text(high) + "]"

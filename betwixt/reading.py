"""Texts of intervals that are read: their form, and the exact values of the ends they say."""

from betwixt.extended import Value, over

# A text has no more bytes, so no more digits either.
MOST_BYTES = 8192
MOST_EXPONENT_DIGITS = 5


class Fault(Exception):
    """Some text of right form begins with the bytes before this spot, none with one more."""

    def __init__(self, spot):
        self.spot = spot


class Reader:
    """A text's bytes, and how many of them are read."""

    def __init__(self, codes):
        self.codes = codes
        self.spot = 0

    def ahead(self):
        """The next byte; -1 behind the last one."""
        return self.codes[self.spot] if self.spot < len(self.codes) else -1

    def passes(self, sign):
        """Whether this sign is next; if so, it's read."""
        if self.ahead() != ord(sign):
            return False
        self.spot = self.spot + 1
        return True

    def take(self, word):
        """Reads a word that must stand here."""
        for sign in word:
            if not self.passes(sign):
                raise Fault(self.spot)


class Exact:
    """Exactly whole times powers of two and of five; if infinite, beyond all bounds on the side of whole's sign."""

    def __init__(self, whole, twos, fives, infinite):
        self.whole = whole
        self.twos = twos
        self.fives = fives
        self.infinite = infinite


def digit_of(code):
    """The digit of sixteen that a byte stands for; 16 of a byte that's none."""
    if code >= ord("0") and code <= ord("9"):
        return code - ord("0")
    if code >= ord("a") and code <= ord("f"):
        return code - ord("a") + 10
    return 16


def take_digits(reader, base, most, whole):
    """Whole with the next digits, at least one and at most so many, behind its own."""
    start = reader.spot
    while digit_of(reader.ahead()) < base and reader.spot < start + most:
        whole = whole * base + digit_of(reader.ahead())
        reader.spot = reader.spot + 1
    if reader.spot == start:
        raise Fault(start)
    return whole


def take_exponent(reader, mark):
    """The exponent behind its mark; 0 if there is none."""
    if not reader.passes(mark):
        return 0
    sign = -1 if reader.passes("-") else 1
    return sign * take_digits(reader, 10, MOST_EXPONENT_DIGITS, 0)


def take_finite(reader, base, mark, sign, whole):
    """The number whose digits before a point are whole; perhaps a point and digits, perhaps an exponent follow."""
    start = reader.spot
    if reader.passes("."):
        start = reader.spot
        whole = take_digits(reader, base, MOST_BYTES, whole)
    behind_point = reader.spot - start
    exponent = take_exponent(reader, mark)
    if base == 16:
        return Exact(sign * whole, exponent - 4 * behind_point, 0, False)
    return Exact(sign * whole, exponent - behind_point, exponent - behind_point, False)


def take_number(reader):
    """The value of a float's text."""
    sign = -1 if reader.passes("-") else 1
    if reader.ahead() == ord("i"):
        reader.take("inf")
        return Exact(sign, 0, 0, True)
    start = reader.spot
    whole = take_digits(reader, 10, MOST_BYTES, 0)
    if whole == 0 and reader.spot == start + 1 and reader.passes("x"):
        return take_finite(reader, 16, "p", sign, take_digits(reader, 16, MOST_BYTES, 0))
    return take_finite(reader, 10, "e", sign, whole)


def take_ends(reader):
    """The values of both ends; none of the empty one."""
    if reader.ahead() == ord("e"):
        reader.take("empty")
        return []
    if reader.passes("["):
        low = take_number(reader)
        reader.take(", ")
        high = take_number(reader)
        reader.take("]")
        return [low, high]
    number = take_number(reader)
    return [number, number]


def ends_said(codes):
    """The values of both ends that a text's bytes say; none of the empty one."""
    reader = Reader(codes)
    ends = take_ends(reader)
    if reader.spot < len(codes):
        raise Fault(reader.spot)
    return ends


def power_of_five(n):
    """Five to the power of n, not below 0."""
    power = 1
    for place in range(n.bit_length() - 1, -1, -1):
        power = power * power
        if (n >> place) % 2 == 1:
            power = power * 5
    return power


def scaled(exact, twos, fives):
    """How many times so many twos and fives, none more than its own, an exact value is."""
    return (exact.whole << (exact.twos - twos)) * power_of_five(exact.fives - fives)


def is_above(exact, other):
    """Whether a finite exact value is above another."""
    twos = min(exact.twos, other.twos)
    fives = min(exact.fives, other.fives)
    return scaled(exact, twos, fives) > scaled(other, twos, fives)


def can_be_ends(low, high):
    """Whether exact values are a lower and an upper end of an interval."""
    if (low.infinite and low.whole > 0) or (high.infinite and high.whole < 0):
        return False
    return low.infinite or high.infinite or not is_above(low, high)


def value_beside(exact):
    """A value that has the same ends beside it as an exact one."""
    if exact.infinite:
        return Value(exact.whole, 0, True)
    if exact.fives >= 0:
        return Value(exact.whole * power_of_five(exact.fives), exact.twos, False)
    return over(Value(exact.whole, exact.twos, False), Value(power_of_five(-exact.fives), 0, False))

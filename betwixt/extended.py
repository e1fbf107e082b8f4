"""Extended numbers: their bits, how they are told and ordered, and reckoning with their exact values."""

# The sign's bit, the significand's highest bit, and the first bit above the significand.
SIGN = 0x80000000000000000000
TOP = 0x8000000000000000
BEYOND = 0x10000000000000000

DIGITS = 64
LAST_EXPONENT = 0x7FFF
# A significand counts in units of two to the power of its exponent bits less this.
OFFSET = 16446

PLUS_INFINITE = 0x7FFF8000000000000000
MINUS_INFINITE = 0xFFFF8000000000000000
GREATEST = 0x7FFEFFFFFFFFFFFFFFFF
EMPTY = 0xFFFFC000000000000000

# So many digits more make a significand's root finer than any end.
FINER = 130

# How a size becomes a number's: the one nearer to 0, the one farther from it, the nearest.
INWARD = 0
OUTWARD = 1
NEAREST = 2


class Value:
    """Exactly whole times two to the power; if infinite, beyond all bounds on the side of whole's sign."""

    def __init__(self, whole, power, infinite):
        self.whole = whole
        self.power = power
        self.infinite = infinite


def exponent_of(bits):
    """The exponent bits, as a whole number."""
    return (bits & (SIGN - 1)) // BEYOND


def significand_of(bits):
    """The significand, its highest bit among it."""
    return bits & (BEYOND - 1)


def is_number(bits):
    """Whether these bits are a finite or an infinite number: not odd, not quiet, not loud."""
    exponent = exponent_of(bits)
    if exponent == 0:
        return True
    if exponent == LAST_EXPONENT:
        return significand_of(bits) == TOP
    return significand_of(bits) >= TOP


def made_normal(bits):
    """The normal one in place of a nearly small one of its value; any other as it is."""
    if exponent_of(bits) == 0 and significand_of(bits) >= TOP:
        return bits + BEYOND
    return bits


def told(bits):
    """A number (or the empty one) as answers have it: zeros are +0, nearly small ones normal."""
    if bits == SIGN:
        return 0
    return made_normal(bits)


def place(bits):
    """A whole number that orders numbers by their values; -0 is just below +0."""
    normal = made_normal(bits)
    if normal >= SIGN:
        return SIGN - 1 - normal
    return normal


def opposite(bits):
    """Minus a told number, told."""
    return told(bits ^ SIGN)


def value_of(bits):
    """The value of a number."""
    whole = significand_of(bits)
    if bits >= SIGN:
        whole = -whole
    exponent = exponent_of(bits)
    return Value(whole, max(exponent, 1) - OFFSET, exponent == LAST_EXPONENT)


def shortened(whole, dropped, rounding):
    """Whole (above 0) rounded to leave out its last digits of two; with 0s behind it if dropped is below 0."""
    if dropped <= 0:
        return whole << -dropped
    kept = whole >> dropped
    rest = whole - (kept << dropped)
    half = 1 << (dropped - 1)
    if rounding == OUTWARD and rest > 0:
        return kept + 1
    # Of two as near the even one.
    if rounding == NEAREST and (rest > half or (rest == half and kept % 2 == 1)):
        return kept + 1
    return kept


def size_rounded(whole, power, rounding):
    """The bits of whole (above 0) times two to the power, rounded."""
    exponent = max(power + whole.bit_length() - DIGITS + OFFSET, 1)
    kept = shortened(whole, exponent - OFFSET - power, rounding)
    if kept == BEYOND:
        kept = TOP
        exponent = exponent + 1
    if exponent >= LAST_EXPONENT:
        return GREATEST if rounding == INWARD else PLUS_INFINITE
    if kept < TOP:
        return kept
    return exponent * BEYOND + kept


def low_end(value):
    """The greatest number that isn't above a value, told."""
    if value.whole == 0:
        return 0
    if value.infinite:
        return PLUS_INFINITE if value.whole > 0 else MINUS_INFINITE
    if value.whole > 0:
        return size_rounded(value.whole, value.power, INWARD)
    return SIGN + size_rounded(-value.whole, value.power, OUTWARD)


def high_end(value):
    """The least number that isn't below a value, told."""
    return opposite(low_end(Value(-value.whole, value.power, value.infinite)))


def nearest(value):
    """The number nearest to a finite value, told; of two as near the even one."""
    if value.whole == 0:
        return 0
    size = size_rounded(abs(value.whole), value.power, NEAREST)
    return size if value.whole > 0 else opposite(size)


def endless(whole):
    """The infinite value with whole's sign."""
    return Value(1 if whole > 0 else -1, 0, True)


def finer(whole, power, exact):
    """Whole times two to the power or, if not exact, a value between that and the next whole.

    All such values have the same ends beside them, so one may stand for another.
    """
    return Value(2 * whole + (0 if exact else 1), power - 1, False)


def plus(value, other):
    """The sum; of infinite ones only those of one sign meet."""
    if value.infinite:
        return value
    if other.infinite:
        return other
    power = min(value.power, other.power)
    whole = (value.whole << (value.power - power)) + (other.whole << (other.power - power))
    return Value(whole, power, False)


def times(value, other):
    """The product; 0 times an infinite one is 0, as 0 times any real number is."""
    whole = value.whole * other.whole
    if whole == 0:
        return Value(0, 0, False)
    if value.infinite or other.infinite:
        return endless(whole)
    return Value(whole, value.power + other.power, False)


def over(value, other):
    """What quotients by numbers (above 0) ever nearer to other (0 or above, perhaps infinite) come to."""
    if value.whole == 0 or other.infinite:
        return Value(0, 0, False)
    if value.infinite or other.whole == 0:
        return endless(value.whole)
    # However long the divisor is, the quotient has more digits than any end.
    shift = DIGITS + other.whole.bit_length()
    scaled = value.whole << shift
    whole = scaled // other.whole
    return finer(whole, value.power - other.power - shift, whole * other.whole == scaled)


def raised(value, n):
    """A value to the power of n, not below 0; to the power of 0 it's 1, of 0 and of infinite ones too."""
    product = Value(1, 0, False)
    for step in range(n):
        product = times(product, value)
    return product


def whole_root(whole):
    """The greatest whole number whose square isn't above whole."""
    # Begun above the root, the guesses fall until they are there.
    guess = 1 << ((whole.bit_length() + 1) // 2)
    while guess * guess > whole:
        guess = (guess + whole // guess) // 2
    return guess


def root(value):
    """The square root of a value that isn't below 0."""
    if value.infinite or value.whole == 0:
        return value
    shift = FINER + (value.power - FINER) % 2
    scaled = value.whole << shift
    whole = whole_root(scaled)
    return finer(whole, (value.power - shift) // 2, whole * whole == scaled)

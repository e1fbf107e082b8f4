"""Extended numbers by their bits: what kind they are, and how they are told and ordered."""

# The sign's bit, the significand's highest bit, and the first bit above the significand.
SIGN = 0x80000000000000000000
TOP = 0x8000000000000000
BEYOND = 0x10000000000000000

LAST_EXPONENT = 0x7FFF

PLUS_INFINITE = 0x7FFF8000000000000000
MINUS_INFINITE = 0xFFFF8000000000000000
EMPTY = 0xFFFFC000000000000000


def exponent_of(bits):
    """The exponent bits, as a whole number."""
    return (bits & (SIGN - 1)) // BEYOND


def significand_of(bits):
    """The significand, its highest bit among it."""
    return bits & (BEYOND - 1)


def is_number(bits):
    """Whether these bits are a finite or an infinite number: not odd, not quiet, not loud."""
    exponent = exponent_of(bits)
    if exponent == 0:
        return True
    if exponent == LAST_EXPONENT:
        return significand_of(bits) == TOP
    return significand_of(bits) >= TOP


def made_normal(bits):
    """The normal one in place of a nearly small one of its value; any other as it is."""
    if exponent_of(bits) == 0 and significand_of(bits) >= TOP:
        return bits + BEYOND
    return bits


def told(bits):
    """A number (or the empty one) as answers have it: zeros are +0, nearly small ones normal."""
    if bits == SIGN:
        return 0
    return made_normal(bits)


def place(bits):
    """A whole number that orders numbers by their values; -0 is just below +0."""
    normal = made_normal(bits)
    if normal >= SIGN:
        return SIGN - 1 - normal
    return normal

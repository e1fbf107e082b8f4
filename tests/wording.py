"""What the document says of texts, written a second time over patterns and fractions, for the tests."""

import re
from fractions import Fraction

from oracle import EMPTY, INFINITE, fault_of_hull, kind, value

FINITE = (r"(?P<{0}hex>0x)(?P<{0}h1>[0-9a-f]+)(?:\.(?P<{0}h2>[0-9a-f]+))?(?:p(?P<{0}hp>-?[0-9]{{1,5}}))?"
          r"|(?P<{0}d1>[0-9]+)(?:\.(?P<{0}d2>[0-9]+))?(?:e(?P<{0}de>-?[0-9]{{1,5}}))?")
NUMBER = r"(?P<{0}sign>-?)(?:(?P<{0}inf>inf)|" + FINITE + ")"
FORM = re.compile(
    r"(?P<empty>empty)|\[" + NUMBER.format("low_") + ", " + NUMBER.format("high_") + r"\]|" + NUMBER.format("alone_")
)

# Whatever some text of right form begins with becomes one by one of these behind it.
NUMBER_ENDINGS = ["", "0", "inf", "nf", "f"]
ENDINGS = (NUMBER_ENDINGS + ["mpty", "pty", "ty", "y"] + [ending + ", 0]" for ending in NUMBER_ENDINGS] + [" 0]"]
           + [ending + "]" for ending in NUMBER_ENDINGS])


def is_beginning(text):
    return any(FORM.fullmatch(text + ending) for ending in ENDINGS)


def fault_of_form(text):
    """How many bytes some text of right form begins with; None of a text of right form."""
    if FORM.fullmatch(text):
        return None
    count = 0
    while count < len(text) and is_beginning(text[:count + 1]):
        count += 1
    return count


def value_said(found, name):
    """The exact value of one of the three numbers of the pattern, infinite ones as floats."""
    sign = -1 if found[name + "sign"] else 1
    if found[name + "inf"]:
        return sign * INFINITE
    if found[name + "hex"]:
        behind = found[name + "h2"] or ""
        power = Fraction(2) ** (int(found[name + "hp"] or "0") - 4 * len(behind))
        return sign * int(found[name + "h1"] + behind, 16) * power
    behind = found[name + "d2"] or ""
    power = Fraction(10) ** (int(found[name + "de"] or "0") - len(behind))
    return sign * int(found[name + "d1"] + behind) * power


def ends_of(text):
    """The exact ends that a text of right form says; None of the empty one."""
    found = FORM.fullmatch(text)
    if found["empty"]:
        return None
    if found["alone_sign"] is not None:
        return value_said(found, "alone_"), value_said(found, "alone_")
    return value_said(found, "low_"), value_said(found, "high_")


def fault_of_reading(answer, text):
    """What keeps an answer from being what the document asks of a text of at most 8,192 bytes; None if nothing."""
    fault = fault_of_form(text)
    if fault is not None:
        return None if answer == [-2, fault] else f"the fault is {fault}"
    ends = ends_of(text)
    if ends is None:
        return None if answer == [0, EMPTY, EMPTY] else "not the empty one"
    if ends[0] > ends[1] or ends[0] == INFINITE or ends[1] == -INFINITE:
        return None if answer == [-5] else "it's no interval"
    return fault_of_hull(answer, ends)


def number_wording(bits):
    """A number's text of sixteens, found digit by digit from its value."""
    sign = "-" if bits >> 79 else ""
    if kind(bits) == "infinite":
        return sign + "inf"
    rest = abs(value(bits))
    if rest == 0:
        return sign + "0x0p0"
    exponent = rest.numerator.bit_length() - rest.denominator.bit_length()
    if Fraction(2) ** exponent > rest:
        exponent -= 1
    digits = ""
    rest = rest / Fraction(2) ** exponent - 1
    while rest:
        rest *= 16
        digits += "0123456789abcdef"[int(rest)]
        rest -= int(rest)
    return sign + "0x1" + ("." + digits if digits else "") + f"p{exponent}"


def wording(low, high):
    return "empty" if low == EMPTY else f"[{number_wording(low)}, {number_wording(high)}]"


def codes_of(text):
    return [ord(sign) for sign in text]

"""Floating numbers of 64 and 32 bits (IEEE 754): taken apart, rounded, put together."""

from wordrunner.flags import INEXACT, INVALID, OVERFLOW, UNDERFLOW

# A form: how many bits its mantissa has, how far below 1 its least step lies (as a power of 2),
# and the bits of its infinity.
DOUBLE = (53, 1074, 0x7FF0000000000000)
SINGLE = (24, 149, 0x7F800000)

SIGN = 0x8000000000000000
INFINITY = 0x7FF0000000000000
NO_NUMBER = 0x7FF8000000000000
QUIET = 0x0008000000000000

NEAREST = 0
UP = 2
DOWN = 3


def sign_of(word):
    return word >> 63


def magnitude(word):
    """The bits without the sign: of two numbers the greater has the greater ones."""
    return word & (SIGN - 1)


def is_no_number(word):
    return magnitude(word) > INFINITY


def is_infinite(word):
    return magnitude(word) == INFINITY


def is_zero(word):
    return magnitude(word) == 0


def with_sign(sign, bits):
    return bits | (sign << 63)


def mantissa_of(word):
    """The whole number that, times 2 to the exponent, is the number without its sign."""
    fraction = word & 0xFFFFFFFFFFFFF
    if magnitude(word) >> 52:
        return fraction | 0x10000000000000
    return fraction


def exponent_of(word):
    return max(magnitude(word) >> 52, 1) - 1075


def goes_up(sign, kept, rest, half, mode):
    """Whether what is kept grows by one, where the rest is not 0."""
    if mode == NEAREST:
        return rest > half or (rest == half and kept & 1 == 1)
    if mode == UP:
        return sign == 0
    if mode == DOWN:
        return sign == 1
    return False


def shortened(sign, mantissa, count, mode):
    """The mantissa without its low bits, so many of them, rounded to a whole number by the mode."""
    if count <= 0:
        return mantissa << -count
    kept = mantissa >> count
    rest = mantissa - (kept << count)
    if rest != 0 and goes_up(sign, kept, rest, 1 << (count - 1), mode):
        return kept + 1
    return kept


def is_shortened_exactly(mantissa, count):
    """Whether the low bits, so many of them, are all 0."""
    return count <= 0 or (mantissa >> count) << count == mantissa


def past_greatest(form, sign, mode):
    """The bits of an infinity, or of the greatest number where it is rounded that way."""
    if mode == NEAREST or (mode == UP and sign == 0) or (mode == DOWN and sign == 1):
        return form[2]
    return form[2] - 1


def rounded(form, sign, mantissa, exponent, mode):
    """The form's bits, without the sign, of mantissa times 2 to the exponent; and the flags."""
    if mantissa == 0:
        return (0, 0)
    size = form[0]
    least = -form[1]
    length = mantissa.bit_length()
    count = max(length - size, least - exponent)
    kept = shortened(sign, mantissa, count, mode)
    # A full mantissa's high bit, and a rounding that carries past it, count the exponent up by themselves.
    bits = kept + ((exponent + count - least) << (size - 1))
    if bits >= form[2]:
        return (past_greatest(form, sign, mode), OVERFLOW | INEXACT)
    if is_shortened_exactly(mantissa, count):
        return (bits, 0)
    if length + exponent < least + size:
        return (bits, INEXACT | UNDERFLOW)
    return (bits, INEXACT)


def widened(single):
    """A floating number of 32 bits as one of 64, exactly; of what is no number the bits go on."""
    sign = single >> 31
    field = (single >> 23) & 255
    fraction = single & 0x7FFFFF
    if field == 255:
        return with_sign(sign, INFINITY | (fraction << 29))
    mantissa = fraction if field == 0 else fraction | 0x800000
    made = rounded(DOUBLE, sign, mantissa, max(field, 1) - 150, NEAREST)
    return with_sign(sign, made[0])


def narrowed(word, mode):
    """A floating number of 64 bits as one of 32; and the flags."""
    sign = sign_of(word) << 31
    if is_no_number(word):
        flags = 0 if word & QUIET else INVALID
        return (sign | 0x7FC00000 | ((word >> 29) & 0x7FFFFF), flags)
    if is_infinite(word):
        return (sign | 0x7F800000, 0)
    made = rounded(SINGLE, sign_of(word), mantissa_of(word), exponent_of(word), mode)
    return (sign | made[0], made[1])

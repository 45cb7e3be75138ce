"""Floating numbers, two at a time: FCMP, FUN, FEQL, FADD, FSUB, FMUL, FDIV, FREM."""

from wordrunner.flags import DIVIDED_BY_ZERO, INVALID
from wordrunner.operands import first_value, op_of, x_of, z_of
from wordrunner.rounding import (
    DOUBLE, DOWN, INFINITY, NO_NUMBER, QUIET, SIGN, exponent_of, is_infinite, is_no_number, is_zero,
    magnitude, mantissa_of, rounded, sign_of, with_sign,
)
from wordrunner.words import compared


def is_unordered(y, z):
    return is_no_number(y) or is_no_number(z)


def is_signalling(word):
    return is_no_number(word) and word & QUIET == 0


def no_number_of(machine, y, z):
    """What comes out where an operand is no number."""
    if is_signalling(y) or is_signalling(z):
        machine.add_flags(INVALID)
    return NO_NUMBER


def invalid(machine):
    """What comes out of 0 by 0 and the like."""
    machine.add_flags(INVALID)
    return NO_NUMBER


def made(machine, sign, mantissa, exponent, mode):
    """The number of 64 bits that is mantissa times 2 to the exponent, rounded; its flags are put on rA."""
    pair = rounded(DOUBLE, sign, mantissa, exponent, mode)
    machine.add_flags(pair[1])
    return with_sign(sign, pair[0])


def rank(word):
    """Ranks stand to one another as the numbers do; both zeros have rank 0."""
    if sign_of(word):
        return -magnitude(word)
    return magnitude(word)


def fcmp(machine, y, z):
    if is_unordered(y, z):
        machine.add_flags(INVALID)
        return 0
    return compared(rank(y), rank(z))


def fun(machine, y, z):
    return 1 if is_unordered(y, z) else 0


def feql(machine, y, z):
    if is_unordered(y, z):
        return 0
    return 1 if rank(y) == rank(z) else 0


def scaled(word, exponent):
    """The number, with its sign, in units of 2 to the exponent, which is not above its own."""
    size = mantissa_of(word) << (exponent_of(word) - exponent)
    return -size if sign_of(word) else size


def sum_that_is_zero(machine, y, z):
    if sign_of(y) == sign_of(z):
        return y
    return SIGN if machine.rounding() == DOWN else 0


def finite_sum(machine, y, z):
    exponent = min(exponent_of(y), exponent_of(z))
    total = scaled(y, exponent) + scaled(z, exponent)
    if total == 0:
        return sum_that_is_zero(machine, y, z)
    return made(machine, 1 if total < 0 else 0, abs(total), exponent, machine.rounding())


def fadd(machine, y, z):
    if is_unordered(y, z):
        return no_number_of(machine, y, z)
    if is_infinite(y) and is_infinite(z) and y != z:
        return invalid(machine)
    if is_infinite(y):
        return y
    if is_infinite(z):
        return z
    return finite_sum(machine, y, z)


def fsub(machine, y, z):
    return fadd(machine, y, z ^ SIGN)


def fmul(machine, y, z):
    if is_unordered(y, z):
        return no_number_of(machine, y, z)
    sign = sign_of(y) ^ sign_of(z)
    if is_infinite(y) or is_infinite(z):
        if is_zero(y) or is_zero(z):
            return invalid(machine)
        return with_sign(sign, INFINITY)
    exponent = exponent_of(y) + exponent_of(z)
    return made(machine, sign, mantissa_of(y) * mantissa_of(z), exponent, machine.rounding())


def finite_quotient(machine, sign, y, z):
    # With 128 bits more the quotient has more bits than are kept; one bit below them tells
    # whether anything is left over.
    dividend = mantissa_of(y) << 128
    divisor = mantissa_of(z)
    rest = 0 if dividend % divisor == 0 else 1
    exponent = exponent_of(y) - exponent_of(z) - 129
    return made(machine, sign, (dividend // divisor << 1) | rest, exponent, machine.rounding())


def fdiv(machine, y, z):
    if is_unordered(y, z):
        return no_number_of(machine, y, z)
    sign = sign_of(y) ^ sign_of(z)
    if (is_zero(y) and is_zero(z)) or (is_infinite(y) and is_infinite(z)):
        return invalid(machine)
    if is_infinite(y):
        return with_sign(sign, INFINITY)
    if is_zero(z):
        machine.add_flags(DIVIDED_BY_ZERO)
        return with_sign(sign, INFINITY)
    if is_infinite(z):
        return with_sign(sign, 0)
    return finite_quotient(machine, sign, y, z)


def finite_rest(machine, y, z):
    exponent = min(exponent_of(y), exponent_of(z))
    divisor = abs(scaled(z, exponent))
    dividend = abs(scaled(y, exponent))
    rest = dividend % divisor
    odd = dividend // divisor % 2 == 1
    sign = sign_of(y)
    if 2 * rest > divisor or (2 * rest == divisor and odd):
        rest = divisor - rest
        sign = 1 - sign
    return made(machine, sign, rest, exponent, machine.rounding())


def frem(machine, y, z):
    if is_unordered(y, z):
        return no_number_of(machine, y, z)
    if is_infinite(y) or is_zero(z):
        return invalid(machine)
    if is_infinite(z):
        return y
    return finite_rest(machine, y, z)


WORKS = {0x01: fcmp, 0x02: fun, 0x03: feql, 0x04: fadd, 0x06: fsub, 0x10: fmul, 0x14: fdiv, 0x16: frem}


def run_floating(machine, word):
    # $Z, whether the op is odd or not: none of these takes Z itself.
    work = WORKS[op_of(word)]
    machine.give(x_of(word), work(machine, first_value(machine, word), machine.value_of(z_of(word))))

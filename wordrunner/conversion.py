"""Floating numbers made whole, their roots, and whole numbers made floating: FIX, FIXU, FSQRT, FINT, FLOT .. SFLOTU."""

from wordrunner.faults import NoInstruction
from wordrunner.flags import FIX_OVERFLOW, INEXACT, INVALID
from wordrunner.floating import invalid, made, no_number_of
from wordrunner.operands import even_op, op_of, second_value, x_of, y_of, z_of
from wordrunner.rounding import (
    NEAREST, SINGLE, exponent_of, is_infinite, is_no_number, is_shortened_exactly, is_zero, mantissa_of,
    rounded, shortened, sign_of, widened, with_sign,
)
from wordrunner.words import MASK, fits, signed


def mode_of(machine, word):
    """The rounding that Y tells: 0 as rA, then towards 0, up, down, nearest."""
    choice = y_of(word)
    if choice > 4:
        raise NoInstruction()
    if choice == 0:
        return machine.rounding()
    if choice == 4:
        return NEAREST
    return choice


def whole_magnitude(machine, word, mode):
    """A finite number, without its sign, rounded to a whole one."""
    mantissa = mantissa_of(word)
    count = -exponent_of(word)
    if not is_shortened_exactly(mantissa, count):
        machine.add_flags(INEXACT)
    return shortened(sign_of(word), mantissa, count, mode)


def whole_value(machine, word, mode):
    size = whole_magnitude(machine, word, mode)
    return -size if sign_of(word) else size


def fixu(machine, z, mode):
    if is_infinite(z) or is_no_number(z):
        machine.add_flags(INVALID)
        return z
    return whole_value(machine, z, mode) & MASK


def fix(machine, z, mode):
    if is_infinite(z) or is_no_number(z):
        machine.add_flags(INVALID)
        return z
    value = whole_value(machine, z, mode)
    if not fits(value, 64):
        machine.add_flags(FIX_OVERFLOW)
    return value & MASK


def whole_root(number):
    """The greatest whole number whose square is not above the number."""
    # From above, each step comes nearer until it would turn back.
    root = 1 << (number.bit_length() // 2 + 1)
    better = (root + number // root) // 2
    while better < root:
        root = better
        better = (root + number // root) // 2
    return root


def finite_root(machine, z, mode):
    # The exponent is made even, and the mantissa long enough that its root has more bits than are kept;
    # one bit below them tells whether anything is left over.
    odd = exponent_of(z) % 2
    mantissa = mantissa_of(z) << (128 + odd)
    root = whole_root(mantissa)
    rest = 0 if root * root == mantissa else 1
    exponent = (exponent_of(z) - 128 - odd) // 2 - 1
    return made(machine, 0, (root << 1) | rest, exponent, mode)


def fsqrt(machine, z, mode):
    if is_no_number(z):
        return no_number_of(machine, z, z)
    if is_zero(z):
        return z
    if sign_of(z):
        return invalid(machine)
    if is_infinite(z):
        return z
    return finite_root(machine, z, mode)


def fint(machine, z, mode):
    if is_no_number(z):
        return no_number_of(machine, z, z)
    if is_infinite(z):
        return z
    return made(machine, sign_of(z), whole_magnitude(machine, z, mode), 0, mode)


def flot(machine, z, mode):
    value = signed(z)
    return made(machine, 1 if value < 0 else 0, abs(value), 0, mode)


def flotu(machine, z, mode):
    return made(machine, 0, z, 0, mode)


def made_short(machine, sign, size, mode):
    """A whole number rounded to a floating number of 32 bits, as one of 64."""
    pair = rounded(SINGLE, sign, size, 0, mode)
    machine.add_flags(pair[1])
    return with_sign(sign, widened(pair[0]))


def sflot(machine, z, mode):
    value = signed(z)
    return made_short(machine, 1 if value < 0 else 0, abs(value), mode)


def sflotu(machine, z, mode):
    return made_short(machine, 0, z, mode)


FIXES = {0x05: fix, 0x07: fixu, 0x15: fsqrt, 0x17: fint}
FLOATS = {0x08: flot, 0x0A: flotu, 0x0C: sflot, 0x0E: sflotu}


def run_fix(machine, word):
    # These ops are odd, and take $Z all the same.
    work = FIXES[op_of(word)]
    mode = mode_of(machine, word)
    machine.give(x_of(word), work(machine, machine.value_of(z_of(word)), mode))


def run_float(machine, word):
    work = FLOATS[even_op(word)]
    mode = mode_of(machine, word)
    machine.give(x_of(word), work(machine, second_value(machine, word), mode))

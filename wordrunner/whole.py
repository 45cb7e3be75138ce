"""Whole numbers: the instructions 18 to 3F."""

from wordrunner.flags import DIVIDE_CHECK, WHOLE_OVERFLOW
from wordrunner.machine import RD, RH, RR
from wordrunner.operands import even_op, first_value, second_value, x_of, y_of
from wordrunner.words import MASK, compared, fits, signed


def fitted(machine, value):
    """The value's word; a value past 64 bits with sign leaves its mark in rA."""
    if not fits(value, 64):
        machine.add_flags(WHOLE_OVERFLOW)
    return value & MASK


def mul(machine, y, z):
    return fitted(machine, signed(y) * signed(z))


def mulu(machine, y, z):
    machine.special[RH] = (y * z) >> 64
    return (y * z) & MASK


def div(machine, y, z):
    if z == 0:
        machine.add_flags(DIVIDE_CHECK)
        machine.special[RR] = y
        return 0
    machine.special[RR] = (signed(y) % signed(z)) & MASK
    return fitted(machine, signed(y) // signed(z))


def divu(machine, y, z):
    high = machine.special[RD]
    if z <= high:
        machine.special[RR] = y
        return high
    dividend = (high << 64) | y
    machine.special[RR] = dividend % z
    return dividend // z


def add(machine, y, z):
    return fitted(machine, signed(y) + signed(z))


def addu(machine, y, z):
    return (y + z) & MASK


def sub(machine, y, z):
    return fitted(machine, signed(y) - signed(z))


def subu(machine, y, z):
    return (y - z) & MASK


def addu_of_two(machine, y, z):
    return (2 * y + z) & MASK


def addu_of_four(machine, y, z):
    return (4 * y + z) & MASK


def addu_of_eight(machine, y, z):
    return (8 * y + z) & MASK


def addu_of_sixteen(machine, y, z):
    return (16 * y + z) & MASK


def compare(machine, y, z):
    return compared(signed(y), signed(z))


def compare_unsigned(machine, y, z):
    return compared(y, z)


def neg(machine, number, z):
    return fitted(machine, number - signed(z))


# A shift by 64 leaves the same as one by any more, and more would only make numbers without end.
def sl(machine, y, z):
    return fitted(machine, signed(y) << min(z, 64))


def slu(machine, y, z):
    return (y << min(z, 64)) & MASK


def sr(machine, y, z):
    return (signed(y) >> min(z, 64)) & MASK


def sru(machine, y, z):
    return y >> min(z, 64)


WORKS = {
    0x18: mul, 0x1A: mulu, 0x1C: div, 0x1E: divu,
    0x20: add, 0x22: addu, 0x24: sub, 0x26: subu,
    0x28: addu_of_two, 0x2A: addu_of_four, 0x2C: addu_of_eight, 0x2E: addu_of_sixteen,
    0x30: compare, 0x32: compare_unsigned, 0x34: neg, 0x36: subu,
    0x38: sl, 0x3A: slu, 0x3C: sr, 0x3E: sru,
}

# NEG and NEGU take Y itself where the others take $Y.
NEGATIONS = (0x34, 0x36)


def run_whole(machine, word):
    op = even_op(word)
    first = y_of(word) if op in NEGATIONS else first_value(machine, word)
    work = WORKS[op]
    machine.give(x_of(word), work(machine, first, second_value(machine, word)))

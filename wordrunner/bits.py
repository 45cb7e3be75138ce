"""Bits and parts of words: the instructions C0 to DF."""

from wordrunner.machine import RM
from wordrunner.operands import even_op, first_value, second_value, x_of
from wordrunner.words import MASK

# The lowest bit of each byte.
LOW_BITS = 0x0101010101010101


def bit_or(machine, y, z):
    return y | z


def bit_orn(machine, y, z):
    return y | (z ^ MASK)


def bit_nor(machine, y, z):
    return (y | z) ^ MASK


def bit_xor(machine, y, z):
    return y ^ z


def bit_and(machine, y, z):
    return y & z


def bit_andn(machine, y, z):
    return y & (z ^ MASK)


def bit_nand(machine, y, z):
    return (y & z) ^ MASK


def bit_nxor(machine, y, z):
    return y ^ z ^ MASK


def differences(y, z, bits):
    """Each part of so many bits less z's, 0 at least."""
    mask = (1 << bits) - 1
    result = 0
    for shift in range(0, 64, bits):
        left = ((y >> shift) & mask) - ((z >> shift) & mask)
        result |= max(left, 0) << shift
    return result


def bdif(machine, y, z):
    return differences(y, z, 8)


def wdif(machine, y, z):
    return differences(y, z, 16)


def tdif(machine, y, z):
    return differences(y, z, 32)


def odif(machine, y, z):
    return differences(y, z, 64)


def mux(machine, y, z):
    chosen = machine.special[RM]
    return (y & chosen) | (z & (chosen ^ MASK))


def sadd(machine, y, z):
    left = y & (z ^ MASK)
    count = 0
    while left:
        # This takes the lowest bit away.
        left &= left - 1
        count += 1
    return count


def spread(y, z, k):
    """Byte k of y, counted from the low end, in each byte whose bit k is set in z."""
    return ((z >> k) & LOW_BITS) * ((y >> 8 * k) & 255)


def mor(machine, y, z):
    result = 0
    for k in range(8):
        result |= spread(y, z, k)
    return result


def mxor(machine, y, z):
    result = 0
    for k in range(8):
        result ^= spread(y, z, k)
    return result


WORKS = {
    0xC0: bit_or, 0xC2: bit_orn, 0xC4: bit_nor, 0xC6: bit_xor,
    0xC8: bit_and, 0xCA: bit_andn, 0xCC: bit_nand, 0xCE: bit_nxor,
    0xD0: bdif, 0xD2: wdif, 0xD4: tdif, 0xD6: odif,
    0xD8: mux, 0xDA: sadd, 0xDC: mor, 0xDE: mxor,
}


def run_bits(machine, word):
    work = WORKS[even_op(word)]
    value = work(machine, first_value(machine, word), second_value(machine, word))
    machine.give(x_of(word), value)

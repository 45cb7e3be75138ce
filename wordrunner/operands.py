"""What an instruction's four bytes, taken as one number of 32 bits, stand for."""

from wordrunner.words import MASK


def op_of(word):
    return word >> 24


def even_op(word):
    """The op that names an instruction and its odd twin."""
    return (word >> 24) & 0xFE


def x_of(word):
    return (word >> 16) & 255


def y_of(word):
    return (word >> 8) & 255


def z_of(word):
    return word & 255


def yz_of(word):
    return word & 0xFFFF


def is_odd(word):
    """Whether the op is odd."""
    return (word >> 24) & 1 == 1


def first_value(machine, word):
    """$Y."""
    return machine.value_of(y_of(word))


def second_value(machine, word):
    """z: $Z, or Z itself where the op is odd."""
    if is_odd(word):
        return z_of(word)
    return machine.value_of(z_of(word))


def address(machine, word):
    """A."""
    return (first_value(machine, word) + second_value(machine, word)) & MASK


def near_target(machine, word):
    """The target that YZ tells."""
    far = yz_of(word)
    if is_odd(word):
        far -= 0x10000
    return (machine.place + 4 * far) & MASK


def far_target(machine, word):
    """The target that XYZ tells."""
    far = word & 0xFFFFFF
    if is_odd(word):
        far -= 0x1000000
    return (machine.place + 4 * far) & MASK

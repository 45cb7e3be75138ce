"""Memory loaded and stored: the instructions 80 to 97 and A0 to B7."""

from wordrunner.flags import WHOLE_OVERFLOW
from wordrunner.machine import RP
from wordrunner.operands import address, even_op, op_of, x_of
from wordrunner.rounding import narrowed, widened
from wordrunner.words import MASK, fits, signed, signed_part


def size_of(word):
    """How many bytes the op's low bits tell: 1, 2, 4 or 8."""
    return 1 << ((op_of(word) >> 2) & 3)


def is_unsigned(word):
    return op_of(word) & 2 == 2


def run_load(machine, word):
    size = size_of(word)
    part = machine.load(address(machine, word), size)
    if not is_unsigned(word):
        part = signed_part(part, 8 * size) & MASK
    machine.give(x_of(word), part)


def run_store(machine, word):
    size = size_of(word)
    value = machine.value_of(x_of(word))
    machine.store(address(machine, word), size, value)
    if not is_unsigned(word) and not fits(signed(value), 8 * size):
        machine.add_flags(WHOLE_OVERFLOW)


def ldsf(machine, word):
    machine.give(x_of(word), widened(machine.load(address(machine, word), 4)))


def ldht(machine, word):
    machine.give(x_of(word), machine.load(address(machine, word), 4) << 32)


def cswap(machine, word):
    place = address(machine, word)
    found = machine.load(place, 8)
    if found == machine.special[RP]:
        machine.store(place, 8, machine.value_of(x_of(word)))
        machine.give(x_of(word), 1)
    else:
        machine.special[RP] = found
        machine.give(x_of(word), 0)


def ldunc(machine, word):
    machine.give(x_of(word), machine.load(address(machine, word), 8))


def stsf(machine, word):
    pair = narrowed(machine.value_of(x_of(word)), machine.rounding())
    machine.store(address(machine, word), 4, pair[0])
    machine.add_flags(pair[1])


def stht(machine, word):
    machine.store(address(machine, word), 4, machine.value_of(x_of(word)) >> 32)


def stco(machine, word):
    machine.store(address(machine, word), 8, x_of(word))


def stunc(machine, word):
    machine.store(address(machine, word), 8, machine.value_of(x_of(word)))


WORKS = {0x90: ldsf, 0x92: ldht, 0x94: cswap, 0x96: ldunc, 0xB0: stsf, 0xB2: stht, 0xB4: stco, 0xB6: stunc}


def run_other_storage(machine, word):
    work = WORKS[even_op(word)]
    work(machine, word)

"""Constants, jumps, places and special registers read: GO, E0 to F1, GETA, GET, and what does nothing."""

from wordrunner.faults import NotAllowed
from wordrunner.operands import address, far_target, near_target, op_of, x_of, y_of, yz_of, z_of
from wordrunner.words import MASK


def run_go(machine, word):
    # $X may be $Y or $Z: A is made before it is set.
    target = address(machine, word)
    machine.give(x_of(word), machine.behind)
    machine.behind = target


def run_constant(machine, word):
    """SET, INC, OR and ANDN of YZ, at the quarter of the word that the op's low bits tell."""
    constant = yz_of(word) << (48 - 16 * (op_of(word) & 3))
    before = machine.value_of(x_of(word))
    work = (op_of(word) >> 2) & 3
    if work == 0:
        value = constant
    elif work == 1:
        value = (before + constant) & MASK
    elif work == 2:
        value = before | constant
    else:
        value = before & (constant ^ MASK)
    machine.give(x_of(word), value)


def run_jump(machine, word):
    machine.behind = far_target(machine, word)


def run_target(machine, word):
    machine.give(x_of(word), near_target(machine, word))


def run_get(machine, word):
    if y_of(word) != 0 or z_of(word) >= 32:
        raise NotAllowed()
    machine.give(x_of(word), machine.special_of(z_of(word)))


def run_nothing(machine, word):
    """What only speeds up or orders a real machine's memory."""
    pass

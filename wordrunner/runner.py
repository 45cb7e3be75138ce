"""run: so many instructions at the most, until a TRAP or a fault."""

from wordrunner.bits import run_bits
from wordrunner.branches import run_branch, run_conditional_set, run_zero_or_set
from wordrunner.conversion import run_fix, run_float
from wordrunner.faults import NoInstruction, NotAllowed, NothingPushed, PastMemory, TooMuchPushed
from wordrunner.floating import run_floating
from wordrunner.machine import RXX
from wordrunner.moves import run_constant, run_get, run_go, run_jump, run_nothing, run_target
from wordrunner.stack import run_pop, run_push_go, run_push_jump, run_put
from wordrunner.storage import run_load, run_other_storage, run_store
from wordrunner.whole import run_whole


def run_missing(machine, word):
    raise NoInstruction()


def ranges():
    """Which function runs the ops from the first to the last; what is missing here is no instruction."""
    return [
        (0x01, 0x04, run_floating), (0x05, 0x05, run_fix), (0x06, 0x06, run_floating), (0x07, 0x07, run_fix),
        (0x08, 0x0F, run_float), (0x10, 0x10, run_floating), (0x14, 0x14, run_floating), (0x15, 0x15, run_fix),
        (0x16, 0x16, run_floating), (0x17, 0x17, run_fix), (0x18, 0x3F, run_whole), (0x40, 0x5F, run_branch),
        (0x60, 0x6F, run_conditional_set), (0x70, 0x7F, run_zero_or_set), (0x80, 0x8F, run_load),
        (0x90, 0x97, run_other_storage), (0x9A, 0x9D, run_nothing), (0x9E, 0x9F, run_go),
        (0xA0, 0xAF, run_store), (0xB0, 0xB7, run_other_storage), (0xB8, 0xBD, run_nothing),
        (0xBE, 0xBF, run_push_go), (0xC0, 0xDF, run_bits), (0xE0, 0xEF, run_constant), (0xF0, 0xF1, run_jump),
        (0xF2, 0xF3, run_push_jump), (0xF4, 0xF5, run_target), (0xF6, 0xF7, run_put), (0xF8, 0xF8, run_pop),
        (0xFC, 0xFD, run_nothing), (0xFE, 0xFE, run_get),
    ]


def op_table():
    """For each op the function that runs it."""
    table = [run_missing] * 256
    for first, last, work in ranges():
        for op in range(first, last + 1):
            table[op] = work
    return table


def trap(machine, word):
    machine.special[RXX] = word
    machine.place = machine.behind
    return 1 if word == 0 else 2


def run_steps(machine, steps):
    table = op_table()
    for step in range(steps):
        word = machine.load(machine.place, 4)
        machine.go_on()
        op = word >> 24
        if op == 0:
            return trap(machine, word)
        work = table[op]
        work(machine, word)
        machine.place = machine.behind
    return 0


def run(machine, steps):
    """What the call run answers."""
    if steps < 0:
        return -8
    try:
        return run_steps(machine, steps)
    except PastMemory:
        return -1
    except NoInstruction:
        return -2
    except NotAllowed:
        return -3
    except NothingPushed:
        return -4
    except TooMuchPushed:
        return -5

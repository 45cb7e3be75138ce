"""Registers pushed and popped, and special registers set: PUSHJ, PUSHGO, POP, PUT."""

from wordrunner.faults import NotAllowed, NothingPushed, TooMuchPushed
from wordrunner.machine import RA, RG, RJ, RL
from wordrunner.operands import address, near_target, second_value, x_of, y_of, yz_of
from wordrunner.words import MASK

MOST_PUSHED = 65536


def push(machine, word):
    """Pushes $0 to $(X-1) and the number X; $X itself is lost, the others become $0 on."""
    count = x_of(word)
    if count >= machine.special[RG]:
        count = len(machine.local)
    if len(machine.pushed) + count + 1 > MOST_PUSHED:
        raise TooMuchPushed()
    machine.make_local(count + 1)
    machine.pushed.extend(machine.local[:count])
    machine.pushed.append(count)
    machine.local = machine.local[count + 1:]
    machine.special[RJ] = machine.behind


def run_push_jump(machine, word):
    target = near_target(machine, word)
    push(machine, word)
    machine.behind = target


def run_push_go(machine, word):
    # A hangs on registers that the push moves.
    target = address(machine, word)
    push(machine, word)
    machine.behind = target


def pop_registers(pushed):
    """Takes the number that was pushed last, and so many registers."""
    count = pushed.pop()
    back = []
    while len(back) < count:
        back.append(pushed.pop())
    back.reverse()
    return back


def results(local, count):
    """What a POP of so many leaves of the locals: the last of these first, then those before it."""
    if count == 0:
        return []
    if count > len(local):
        return [0] + local
    return [local[count - 1]] + local[:count - 1]


def run_pop(machine, word):
    if len(machine.pushed) == 0:
        raise NothingPushed()
    left = results(machine.local, x_of(word))
    machine.local = (pop_registers(machine.pushed) + left)[:machine.special[RG]]
    machine.behind = (machine.special[RJ] + 4 * yz_of(word)) & MASK


def put_globals(machine, first):
    """rG: the registers from the first on are global, and those that become so are 0."""
    if first < 32 or first > 255 or first < len(machine.local):
        raise NotAllowed()
    for number in range(first, machine.special[RG]):
        machine.wide[number] = 0
    machine.special[RG] = first


def put_arithmetic(machine, value):
    """rA: the flags and the rounding, but no trips."""
    if value >> 18 or (value >> 8) & 255:
        raise NotAllowed()
    machine.special[RA] = value


def run_put(machine, word):
    number = x_of(word)
    value = second_value(machine, word)
    if y_of(word) != 0 or 8 <= number <= 18 or number >= 32:
        raise NotAllowed()
    if number == RG:
        put_globals(machine, value)
    elif number == RL:
        machine.local = machine.local[:min(value, len(machine.local))]
    elif number == RA:
        put_arithmetic(machine, value)
    else:
        machine.special[number] = value

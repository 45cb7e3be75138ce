"""The desk: a list of calls on a new machine is handed in, what they answer is given back."""

from wordrunner.machine import MEMORY_SIZE, Machine
from wordrunner.runner import run

WRITE = 1
MOST_BYTES = 65536
HOW_MANY_PLAIN = 256
HOW_MANY_SPECIAL = 32

# How many numbers each call has, by its own number; write has its bytes behind these.
LENGTHS = (1, 3, 3, 2, 2, 1, 2, 3, 2)


def refusal(place, count):
    """-8 or -1, where so many bytes at the place can't be written or read; else 0."""
    if count < 0 or count > MOST_BYTES:
        return -8
    if place + count > MEMORY_SIZE:
        return -1
    return 0


def answer_begin(machine, call):
    machine.begin()
    return [0]


def answer_write(machine, call):
    place = call[1]
    refused = refusal(place, call[2])
    if refused < 0:
        return [refused]
    for offset in range(call[2]):
        machine.store(place + offset, 1, call[3 + offset])
    return [0]


def answer_read(machine, call):
    place = call[1]
    refused = refusal(place, call[2])
    if refused < 0:
        return [refused]
    return [call[2]] + [machine.load(place + offset, 1) for offset in range(call[2])]


def answer_go(machine, call):
    machine.place = call[1]
    return [0]


def answer_run(machine, call):
    return [run(machine, call[1])]


def answer_place(machine, call):
    return [0, machine.place]


def is_there(number, count):
    """Whether so many registers have one of this number."""
    return 0 <= number < count


def answer_get(machine, call):
    if not is_there(call[1], HOW_MANY_PLAIN):
        return [-8]
    return [0, machine.value_of(call[1])]


def answer_set(machine, call):
    if not is_there(call[1], HOW_MANY_PLAIN):
        return [-8]
    machine.give(call[1], call[2])
    return [0]


def answer_special(machine, call):
    if not is_there(call[1], HOW_MANY_SPECIAL):
        return [-8]
    return [0, machine.special_of(call[1])]


DUTIES = (
    answer_begin, answer_write, answer_read, answer_go, answer_run,
    answer_place, answer_get, answer_set, answer_special,
)


def call_length(calls, start):
    length = LENGTHS[calls[start]]
    if calls[start] == WRITE:
        return length + calls[start + 2]
    return length


def answers(calls):
    """For each call, in order, how many numbers are answered, then these."""
    machine = Machine()
    given = []
    start = 0
    while start < len(calls):
        length = call_length(calls, start)
        duty = DUTIES[calls[start]]
        answer = duty(machine, calls[start:start + length])
        given.append(len(answer))
        given.extend(answer)
        start += length
    return given

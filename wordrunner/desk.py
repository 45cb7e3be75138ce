"""The desk: a list of calls on a new machine is handed in, what they answer is given back."""

from wordrunner.machine import MEMORY_SIZE, Machine
from wordrunner.runner import run

WRITE = 1
MOST_BYTES = 65536

# How many numbers each call has, by its own number; write has its bytes behind these.
LENGTHS = (1, 3, 3, 2, 2)


def refusal(place, count):
    """-8 or -1, where so many bytes at the place can't be written or read; else 0."""
    if count < 0 or count > MOST_BYTES:
        return -8
    if place + count > MEMORY_SIZE:
        return -1
    return 0


def answer_begin(machine, call):
    machine.begin()
    return [0]


def answer_write(machine, call):
    place = call[1]
    refused = refusal(place, call[2])
    if refused < 0:
        return [refused]
    for offset in range(call[2]):
        machine.store(place + offset, 1, call[3 + offset])
    return [0]


def answer_read(machine, call):
    place = call[1]
    refused = refusal(place, call[2])
    if refused < 0:
        return [refused]
    return [call[2]] + [machine.load(place + offset, 1) for offset in range(call[2])]


def answer_go(machine, call):
    machine.place = call[1]
    return [0]


def answer_run(machine, call):
    return [run(machine, call[1])]


DUTIES = (answer_begin, answer_write, answer_read, answer_go, answer_run)


def call_length(calls, start):
    length = LENGTHS[calls[start]]
    if calls[start] == WRITE:
        return length + calls[start + 2]
    return length


def answers(calls):
    """For each call, in order, how many numbers are answered, then these."""
    machine = Machine()
    given = []
    start = 0
    while start < len(calls):
        length = call_length(calls, start)
        duty = DUTIES[calls[start]]
        answer = duty(machine, calls[start:start + length])
        given.append(len(answer))
        given.extend(answer)
        start += length
    return given

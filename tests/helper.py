"""Calls, small programs, and a look at the machine through them."""

from wordrunner.desk import answers

MASK = (1 << 64) - 1
SIZE = 1 << 20
BEGIN = [0]
PLACE = [5]

SETUP = 0x1000
PROGRAM = 0x2000
MOST_CALLS = 100


def write(place, data):
    return [1, place, len(data), *data]


def read(place, count):
    return [2, place, count]


def go(place):
    return [3, place]


def run(steps):
    return [4, steps]


def get(number):
    return [6, number]


def give(number, word):
    """The call set."""
    return [7, number, word]


def special(number):
    return [8, number]


def parted(flat):
    """What is answered, call by call."""
    parts = []
    start = 0
    while start < len(flat):
        count = flat[start]
        assert count == len(flat[start + 1:start + 1 + count])
        parts.append(flat[start + 1:start + 1 + count])
        start += 1 + count
    return parts


def ask(*calls):
    assert len(calls) <= MOST_CALLS
    return parted(answers([number for call in calls for number in call]))


def code(*instructions):
    """The bytes of instructions, each a tuple of op, X, Y, Z or of op, X, YZ."""
    data = []
    for parts in instructions:
        if len(parts) == 3:
            parts = (parts[0], parts[1], parts[2] >> 8, parts[2] & 255)
        data.extend(parts)
    return data


def constant(number, word):
    """SETH, ORMH, ORML, ORL: a word into a register."""
    return [(0xE0 + (8 if k else 0) + k, number, (word >> (48 - 16 * k)) & 0xFFFF) for k in range(4)]


def octa(word):
    return list((word & MASK).to_bytes(8, "big"))


def octas(data):
    return [int.from_bytes(bytes(data[k:k + 8]), "big") for k in range(0, len(data), 8)]


class State:
    """What a program left behind: what run answered, the place, the registers looked at, the special ones, bytes."""

    def __init__(self, answer, place, registers, specials, memory):
        self.answer = answer
        self.place = place
        self.registers = registers
        self.specials = specials
        self.memory = memory


def prepared(registers, specials):
    """Calls that set special registers, by PUT from $255, then registers."""
    setup = []
    for number, word in specials.items():
        setup += constant(255, word) + [(0xF6, number, 0, 255)]
    calls = [write(SETUP, code(*setup)), go(SETUP), run(len(setup)), give(255, 0)]
    return calls + [give(number, word) for number, word in registers.items()]


def after(program, registers=None, specials=None, memory=(), see=(0, 1, 2, 3), steps=None, at=PROGRAM, peek=(0, 0)):
    """Sets registers, runs the program, and asks what it left."""
    calls = prepared(registers or {}, specials or {})
    calls += [write(place, data) for place, data in memory]
    calls += [write(at, code(*program)), go(at)]
    ahead = len(calls)
    calls += [run(len(program) if steps is None else steps), PLACE, read(*peek)]
    calls += [get(number) for number in see] + [special(number) for number in range(32)]
    parts = ask(*calls)
    assert all(part == [0] for part in parts[:ahead]), parts[:ahead]
    words = parts[ahead + 3:]
    assert all(part[0] == 0 and len(part) == 2 for part in words), words
    found = {number: part[1] for number, part in zip(see, words)}
    specials_found = [part[1] for part in words[len(see):]]
    return State(parts[ahead][0], parts[ahead + 1][1], found, specials_found, parts[ahead + 2][1:])


def worked(op, y, z, specials=None):
    """One instruction $3 = op of $1, $2."""
    return after([(op, 3, 1, 2)], {1: y & MASK, 2: z & MASK}, specials)


def many_worked(instruction, cases):
    """One instruction on many cases ($1, $2, rA): for each $3 and rA behind it."""
    found = []
    for start in range(0, len(cases), 12):
        found += some_worked(instruction, cases[start:start + 12])
    return found


def some_worked(instruction, cases):
    calls = [write(0, code((0xF6, 21, 0, 4), instruction))]
    for y, z, arithmetic in cases:
        calls += [give(1, y), give(2, z), give(4, arithmetic), go(0), run(2), PLACE, get(3), special(21)]
    parts = ask(*calls)[1:]
    for start in range(0, len(parts), 8):
        assert parts[start:start + 6] == [[0]] * 5 + [[0, 8]], parts[start:start + 6]
    return [(parts[start + 6][1], parts[start + 7][1]) for start in range(0, len(parts), 8)]

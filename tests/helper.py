"""Calls, small programs, and a look at the machine through them."""

from wordrunner.desk import answers

MASK = (1 << 64) - 1
SIZE = 1 << 20
BEGIN = [0]

SETUP = 0x1000
PROGRAM = 0x2000
DUMP = 0x3000


def write(place, data):
    return [1, place, len(data), *data]


def read(place, count):
    return [2, place, count]


def go(place):
    return [3, place]


def run(steps):
    return [4, steps]


def parted(flat):
    """What is answered, call by call."""
    parts = []
    start = 0
    while start < len(flat):
        count = flat[start]
        assert count == len(flat[start + 1:start + 1 + count])
        parts.append(flat[start + 1:start + 1 + count])
        start += 1 + count
    return parts


def ask(*calls):
    return parted(answers([number for call in calls for number in call]))


def code(*instructions):
    """The bytes of instructions, each a tuple of op, X, Y, Z or of op, X, YZ."""
    data = []
    for parts in instructions:
        if len(parts) == 3:
            parts = (parts[0], parts[1], parts[2] >> 8, parts[2] & 255)
        data.extend(parts)
    return data


def constant(number, word):
    """SETH, ORMH, ORML, ORL: a word into a register."""
    return [(0xE0 + (8 if k else 0) + k, number, (word >> (48 - 16 * k)) & 0xFFFF) for k in range(4)]


def preparation(registers, specials):
    instructions = []
    for number, word in specials.items():
        instructions += constant(255, word) + [(0xF6, number, 0, 255)]
    for number, word in ({255: 0} | registers).items():
        instructions += constant(number, word)
    return instructions


def octa(word):
    return list((word & MASK).to_bytes(8, "big"))


def octas(data):
    return [int.from_bytes(bytes(data[k:k + 8]), "big") for k in range(0, len(data), 8)]


class State:
    """What a program left behind: what run answered, the registers looked at, the special registers."""

    def __init__(self, answer, registers, specials, memory):
        self.answer = answer
        self.registers = registers
        self.specials = specials
        self.memory = memory


def after(program, registers=None, specials=None, memory=(), see=(0, 1, 2, 3), steps=None, at=PROGRAM, peek=(0, 0)):
    """Sets registers, runs the program, and stores what is to be seen at 0 to 255.

    Only $255, which is global, is used on the way, and $254, which must be 0 and stay so.
    """
    setup = preparation(registers or {}, specials or {})
    seen = [(0xAF, number, 254, 8 * k) for k, number in enumerate(see)]
    special = []
    for k in range(32):
        special += [(0xFE, 255, 0, k), (0xAF, 255, 254, 8 * k)]
    calls = [write(SETUP, code(*setup)), go(SETUP), run(len(setup))]
    calls += [write(place, data) for place, data in memory]
    calls += [write(at, code(*program)), go(at), run(len(program) if steps is None else steps)]
    answer_at = len(calls) - 1
    calls += [read(*peek)]
    calls += [write(DUMP, code(*seen, *special)), go(DUMP), run(len(seen)), read(0, 8 * len(see))]
    calls += [run(len(special)), read(0, 256)]
    parts = ask(*calls)
    assert parts[2] == [0] and parts[answer_at + 4] == [0] and parts[answer_at + 6] == [0]
    found = dict(zip(see, octas(parts[answer_at + 5][1:])))
    specials_found = octas(parts[answer_at + 7][1:])
    return State(parts[answer_at][0], found, specials_found, parts[answer_at + 1][1:])


def worked(op, y, z, specials=None):
    """One instruction $3 = op of $1, $2."""
    return after([(op, 3, 1, 2)], {1: y & MASK, 2: z & MASK}, specials)


def many_worked(instruction, cases):
    """One instruction on many cases ($1, $2, rA): for each $3 and rA behind it."""
    found = []
    for start in range(0, len(cases), 600):
        found += some_worked(instruction, cases[start:start + 600])
    return found


def some_worked(instruction, cases):
    data = []
    for case in cases:
        for word in case:
            data += octa(word)
    loop = [
        (0x8F, 1, 10, 0), (0x8F, 2, 10, 8), (0x8F, 4, 10, 16), (0xF6, 21, 0, 4),
        instruction,
        (0xAF, 3, 11, 0), (0xFE, 4, 0, 21), (0xAF, 4, 11, 8),
        (0x23, 10, 10, 24), (0x23, 11, 11, 16), (0x25, 12, 12, 1), (0x5B, 12, 65536 - 11),
    ]
    setup = [(0xE3, 10, 0x8000), (0xE2, 11, 1), (0xE3, 12, len(cases))]
    steps = 3 + 12 * len(cases)
    parts = ask(write(0x8000, data), write(0, code(*setup, *loop)), run(steps), read(0x10000, 16 * len(cases)))
    assert parts[2] == [0], parts[2]
    words = octas(parts[3][1:])
    return list(zip(words[0::2], words[1::2]))

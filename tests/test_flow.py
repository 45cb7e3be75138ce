"""Instructions, targets, branches, jumps, constants (points 6, 10, 12, 15)."""

import unittest

from helper import MASK, PROGRAM, after, ask, code, constant, go, octa, read, run, write

QUESTIONS = (
    lambda value: value < 0, lambda value: value == 0, lambda value: value > 0, lambda value: value % 2 == 1,
    lambda value: value >= 0, lambda value: value != 0, lambda value: value <= 0, lambda value: value % 2 == 0,
)
VALUES = (0, 1, 2, 3, (1 << 63) - 1, -(1 << 63), 1 - (1 << 63), -3, -2, -1)


def landed(instruction, at, registers=None):
    """The place behind an instruction; what is run next stands there."""
    first = at - 4 * 100
    field = []
    for number in range(200):
        field += [0, 0, 1, number]
    state = after([instruction], registers, at=at)
    beyond = after([instruction], registers, memory=[(first, field)], at=at, steps=2)
    assert (state.answer, beyond.answer, beyond.place) == (0, 2, state.place + 4)
    assert first + 4 * (beyond.specials[29] & 255) == state.place - state.place % 4
    return state.place


class Branches(unittest.TestCase):
    AT = 0x4800

    def test_branches(self):
        for base in (0x40, 0x50):
            for k, question in enumerate(QUESTIONS):
                for value in VALUES:
                    ahead = landed((base + 2 * k, 1, 7), self.AT, {1: value & MASK})
                    self.assertEqual(ahead, self.AT + (28 if question(value) else 4))
                    back = landed((base + 2 * k + 1, 1, 65536 - 9), self.AT, {1: value & MASK})
                    self.assertEqual(back, self.AT - 36 if question(value) else self.AT + 4)

    def test_conditional_sets(self):
        for k, question in enumerate(QUESTIONS):
            for value in VALUES:
                state = after([(0x60 + 2 * k, 3, 1, 2)], {1: value & MASK, 2: 77, 3: 5})
                self.assertEqual(state.registers[3], 77 if question(value) else 5)
                state = after([(0x61 + 2 * k, 3, 1, 2)], {1: value & MASK, 2: 77, 3: 5})
                self.assertEqual(state.registers[3], 2 if question(value) else 5)

    def test_a_set_that_is_not_made_makes_no_local(self):
        self.assertEqual(after([(0x61, 9, 1, 2)], {1: 5}).specials[20], 2)
        self.assertEqual(after([(0x61, 9, 1, 2)], {1: MASK}).specials[20], 10)

    def test_sets_or_zeros(self):
        for k, question in enumerate(QUESTIONS):
            for value in VALUES:
                state = after([(0x70 + 2 * k, 3, 1, 2)], {1: value & MASK, 2: 77, 3: 5})
                self.assertEqual(state.registers[3], 77 if question(value) else 0)
                state = after([(0x71 + 2 * k, 3, 1, 2)], {1: value & MASK, 2: 77, 3: 5})
                self.assertEqual(state.registers[3], 2 if question(value) else 0)


class Jumps(unittest.TestCase):
    AT = 0x4800

    def test_jmp(self):
        self.assertEqual(landed((0xF0, 0, 0, 5), self.AT), self.AT + 20)
        self.assertEqual(landed((0xF1, 255, 255, 256 - 5), self.AT), self.AT - 20)
        # The high byte counts: 4 times 0x10000 on.
        parts = ask(write(0x40000, [0, 0, 0, 7]), write(0, code((0xF0, 1, 0, 0))), run(2))
        self.assertEqual(parts[-1], [2])
        parts = ask(write(8, [0, 0, 0, 7]), write(0x40008, code((0xF1, 255, 0, 0))), go(0x40008), run(2))
        self.assertEqual(parts[-1], [2])

    def test_targets_go_round(self):
        parts = ask(write(0, code((0xF1, 255, 255, 255))), run(1), run(1))
        self.assertEqual(parts[1:], [[0], [-1]])
        state = after([(0xF5, 3, 0)], at=0)
        self.assertEqual(state.registers[3], -4 * 65536 & MASK)

    def test_go(self):
        state = after([(0x9E, 3, 1, 2)], {1: 0x4000, 2: 0x10})
        self.assertEqual(state.registers[3], PROGRAM + 4)
        self.assertEqual(landed((0x9E, 3, 1, 2), self.AT, {1: self.AT, 2: 0x10}), self.AT + 16)
        self.assertEqual(landed((0x9F, 3, 1, 12), self.AT, {1: self.AT}), self.AT + 12)
        self.assertEqual(landed((0x9F, 1, 1, 12), self.AT, {1: self.AT}), self.AT + 12)
        self.assertEqual(landed((0x9F, 1, 1, 15), self.AT, {1: self.AT}), self.AT + 15)

    def test_go_past_memory(self):
        parts = ask(write(0, code((0xE0, 1, 1), (0x9F, 1, 1, 0))), run(2), run(1))
        self.assertEqual(parts[1:], [[0], [-1]])

    def test_geta(self):
        self.assertEqual(after([(0xF4, 3, 0x1234)]).registers[3], PROGRAM + 4 * 0x1234)
        self.assertEqual(after([(0xF5, 3, 65535)]).registers[3], PROGRAM - 4)
        self.assertEqual(after([(0xF5, 3, 65535)], at=0).registers[3], MASK - 3)
        self.assertEqual(after([(0xFD, 0, 0), (0xF4, 3, 0)]).registers[3], PROGRAM + 4)

    def test_nothing(self):
        before = after([], {1: MASK, 2: 3})
        for op in (0x9A, 0x9B, 0x9C, 0x9D, 0xB8, 0xB9, 0xBA, 0xBB, 0xBC, 0xBD, 0xFC, 0xFD):
            state = after([(op, 3, 1, 2)], {1: MASK, 2: 3})
            self.assertEqual((state.answer, state.registers, state.specials), (0, before.registers, before.specials))


class Constants(unittest.TestCase):
    BEFORE = 0xFFFF_F0F0_1234_8001

    def test_all(self):
        for k, shift in enumerate((48, 32, 16, 0)):
            for value in (0, 1, 0x8001, 0xFFFF):
                placed = value << shift
                for op, expected in (
                    (0xE0, placed), (0xE4, self.BEFORE + placed), (0xE8, self.BEFORE | placed),
                    (0xEC, self.BEFORE & ~placed),
                ):
                    state = after([(op + k, 3, value)], {3: self.BEFORE})
                    self.assertEqual(state.registers[3], expected & MASK, (hex(op + k), hex(value)))
                    self.assertEqual(state.specials[21], 0)


class Fetching(unittest.TestCase):
    def test_high_byte_first(self):
        parts = ask(write(0, code(*constant(255, 0x0102030405060708), (0xAF, 255, 254, 64))), run(5), read(64, 8))
        self.assertEqual(parts[2], [8, 1, 2, 3, 4, 5, 6, 7, 8])
        self.assertEqual(parts[2], [8] + octa(0x0102030405060708))

    def test_a_program_changes_itself(self):
        # STT of $1 over the instruction behind it.
        registers = {1: 0xE3030009, 2: PROGRAM}
        state = after([(0xA9, 1, 2, 4), (0xFF, 0, 0, 0)], registers)
        self.assertEqual((state.answer, state.registers[3]), (0, 9))

    def test_a_loop(self):
        program = [(0x22, 3, 3, 1), (0x27, 1, 1, 1), (0x5B, 1, 65534), (0, 0, 0, 0)]
        state = after(program, {1: 1000}, steps=100000)
        self.assertEqual((state.answer, state.registers[3]), (1, 500500))


if __name__ == "__main__":
    unittest.main()

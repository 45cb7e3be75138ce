"""run: its answers, its refusal, its faults (point 4; and 15)."""

import unittest

from helper import MASK, SIZE, after, ask, code, go, octa, read, run, write

NOTHING = (0xFD, 0, 0, 0)
TRAP = (0, 0, 0, 0)
COUNT = (0xE7, 1, 1)  # INCL $1,1


def counted(steps, program):
    """What run answers, and how far $1 was counted."""
    state = after(program, {}, see=(1,), steps=steps)
    return (state.answer, state.registers[1])


class Steps(unittest.TestCase):
    def test_below_0(self):
        for steps in (-1, -2147483648):
            self.assertEqual(ask(run(steps), go(SIZE), run(steps)), [[-8], [0], [-8]])
        self.assertEqual(counted(-1, [COUNT, TRAP]), (-8, 0))

    def test_none(self):
        self.assertEqual(counted(0, [COUNT, TRAP]), (0, 0))
        self.assertEqual(ask(run(0), write(0, [0xFF, 0, 0, 0]), run(0)), [[0], [0], [0]])

    def test_fewer_than_the_program_has(self):
        self.assertEqual(counted(1, [COUNT, COUNT, COUNT, TRAP]), (0, 1))
        self.assertEqual(counted(3, [COUNT, COUNT, COUNT, TRAP]), (0, 3))

    def test_just_as_many(self):
        self.assertEqual(counted(4, [COUNT, COUNT, COUNT, TRAP]), (1, 3))

    def test_more(self):
        self.assertEqual(counted(5, [COUNT, COUNT, COUNT, TRAP]), (1, 3))
        self.assertEqual(counted(100000, [COUNT, COUNT, COUNT, TRAP, COUNT]), (1, 3))

    def test_a_hundred_thousand(self):
        self.assertEqual(counted(100000, [COUNT, (0xF1, 0xFF, 0xFFFF)]), (0, 50000))

    def test_a_second_run_goes_on(self):
        store = (0xAF, 1, 254, 64)
        parts = ask(
            write(0x1000, code(COUNT, COUNT, store, COUNT, store, TRAP)), go(0x1000),
            run(1), run(2), read(64, 8), run(1), run(1), read(64, 8), run(1),
        )
        self.assertEqual(parts[2:], [[0], [0], [8] + octa(2), [0], [0], [8] + octa(3), [1]])


class Traps(unittest.TestCase):
    def test_answers(self):
        self.assertEqual(after([TRAP]).answer, 1)
        for trap in ((0, 1, 0, 0), (0, 0, 1, 0), (0, 0, 0, 1), (0, 255, 255, 255)):
            self.assertEqual(after([trap]).answer, 2)

    def test_rxx_is_the_instruction(self):
        self.assertEqual(after([(0, 1, 2, 3)]).specials[29], 0x00010203)
        self.assertEqual(after([(0, 1, 2, 3), TRAP], steps=1).specials[29], 0x00010203)
        self.assertEqual(after([TRAP], specials={29: 77}).specials[29], 0)
        self.assertEqual(after([NOTHING], specials={29: 77}).specials[29], 77)

    def test_the_place_is_behind_it(self):
        parts = ask(write(0, code(TRAP, (0, 0, 0, 9), TRAP)), run(9), run(9), run(9))
        self.assertEqual(parts[1:], [[1], [2], [1]])

    def test_the_last_one_in_memory(self):
        self.assertEqual(ask(go(SIZE - 4), run(2), run(1)), [[0], [1], [-1]])


class Faults(unittest.TestCase):
    MISSING = (0x11, 0x12, 0x13, 0x98, 0x99, 0xF9, 0xFA, 0xFB, 0xFF)

    def fault_leaves_all(self, fault, program, registers=None, specials=None):
        """The fault comes, and the machine is as before."""
        registers = {1: 5, 2: MASK, 3: 7} | (registers or {})
        specials = {3: 11, 4: 22, 5: 33, 6: 44, 21: 0x20011, 23: 55} | (specials or {})
        see = (0, 1, 2, 3, 255)
        memory = [(0, list(range(64)))]
        before = after([], registers, specials, memory, see=see, peek=(0, 64))
        state = after(program, registers, specials, memory, see=see, peek=(0, 64))
        self.assertEqual((state.answer, state.place), (fault, before.place))
        self.assertEqual(state.registers, before.registers)
        self.assertEqual(state.specials, before.specials)
        self.assertEqual(state.memory, before.memory)

    def test_no_such_instruction(self):
        for op in self.MISSING:
            self.fault_leaves_all(-2, [(op, 3, 0, 1)])

    def test_only_these_are_missing(self):
        for op in range(256):
            answer = after([(op, 3, 0, 1)], specials={19: 255}).answer
            if op not in self.MISSING:
                self.assertNotEqual(answer, -2, hex(op))
            self.assertIn(answer, (0, 2, -2, -3, -4))

    def test_a_rounding_that_there_is_not(self):
        for op in (0x05, 0x07, 0x15, 0x17, *range(0x08, 0x10)):
            for y in (5, 255):
                self.fault_leaves_all(-2, [(op, 3, y, 1)])
            self.assertEqual(after([(op, 3, 4, 1)]).answer, 0)

    def test_an_instruction_past_memory(self):
        parts = ask(go(SIZE - 4), write(SIZE - 4, code(NOTHING)), run(1), run(1), run(5))
        self.assertEqual(parts[2:], [[0], [-1], [-1]])
        parts = ask(go(SIZE - 4), write(SIZE - 4, code(NOTHING)), run(2), run(1), go(SIZE - 4), run(1))
        self.assertEqual(parts[2:], [[-1], [-1], [0], [0]])

    def test_data_past_memory(self):
        for op in (*range(0x80, 0x98), *range(0xA0, 0xB8)):
            for place in (SIZE, 1 << 63, MASK - 255):
                self.fault_leaves_all(-1, [(op, 2, 1, 0)], {1: place, 2: 1})
            self.assertEqual(after([(op, 2, 1, 0)], {1: SIZE - 1, 2: 1}).answer, 0)

    def test_addresses_go_round(self):
        self.assertEqual(after([(0x81, 2, 1, 5)], {1: MASK - 3}, memory=[(0, [1, 9, 3])]).registers[2], 9)

    def test_special_registers_not_allowed(self):
        for number in (*range(8, 19), 32, 255):
            self.fault_leaves_all(-3, [(0xF7, number, 0, 1)])
        self.fault_leaves_all(-3, [(0xF7, 0, 1, 1)])
        self.fault_leaves_all(-3, [(0xFE, 3, 1, 1)])
        for number in (32, 33, 255):
            self.fault_leaves_all(-3, [(0xFE, 3, 0, number)])

    def test_nothing_is_pushed(self):
        for x in (0, 1, 255):
            self.fault_leaves_all(-4, [(0xF8, x, 0, 1)])

    def test_the_fault_leaves_the_place(self):
        for fault, bad in ((-2, (0xFF, 0, 0, 0)), (-3, (0xFE, 0, 0, 99)), (-4, (0xF8, 0, 0, 0)), (-1, (0x8D, 1, 2, 0))):
            setup = (0xE0, 2, 1)
            parts = ask(write(0, code(setup, bad, TRAP)), run(9), run(9), write(4, code((0, 0, 0, 1))), run(1), run(1))
            self.assertEqual(parts[1:], [[fault], [fault], [0], [2], [1]])

    def test_what_was_run_before_a_fault_stays(self):
        state = after([COUNT, COUNT, (0xFF, 0, 0, 0), COUNT], see=(1,))
        self.assertEqual((state.answer, state.registers[1]), (-2, 2))


class TooMuchPushed(unittest.TestCase):
    def pushes(self, x, count):
        """A loop of PUSHJ $X to itself, then how many words that many pushes are."""
        return ask(write(0, code((0xF2, x, 0))), run(count), run(1), run(1), write(0, code((0xF8, 0, 0))), run(1))

    def test_single_words(self):
        # PUSHJ $0 pushes the number 0 alone.
        self.assertEqual(self.pushes(0, 65535)[1:4], [[0], [0], [-5]])
        self.assertEqual(self.pushes(0, 65536)[1:4], [[0], [-5], [-5]])

    def test_many_words(self):
        # PUSHJ $127 pushes 128 words, 512 times 65536; PUSHJ $254 pushes 255, 257 times 65535.
        self.assertEqual(self.pushes(127, 511)[1:4], [[0], [0], [-5]])
        self.assertEqual(self.pushes(254, 256)[1:3], [[0], [0]])
        self.assertEqual(self.pushes(254, 257)[1:3], [[0], [-5]])

    def test_nothing_is_changed(self):
        # 257 times 255 words are 65535; one of 2 words is too much, one of 1 is not.
        parts = ask(
            write(0, code((0xF2, 254, 0))), run(257), write(0, code((0xF2, 1, 0))), run(1),
            write(0, code((0xFE, 255, 0, 20), (0xAF, 255, 254, 64))), run(2), read(64, 8),
            go(0), write(0, code((0xF2, 0, 0))), run(1), run(1),
        )
        self.assertEqual([parts[1], parts[3], parts[6]], [[0], [-5], [8] + octa(0)])
        self.assertEqual(parts[9:], [[0], [-5]])


if __name__ == "__main__":
    unittest.main()

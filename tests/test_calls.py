"""begin, write, read, go, place (points 1 and 2)."""

import unittest

from helper import BEGIN, MASK, PLACE, SIZE, ask, code, constant, give, go, octa, read, run, special, write

TRAP = [0, 0, 0, 0]
OTHER_TRAP = [0, 1, 2, 3]
NOTHING = [0xFD, 0, 0, 0]
STORE_4_AT_64 = [0xAF, 4, 0, 64]
STORE_255_AT_72 = [0xAF, 255, 0, 72]


class Begin(unittest.TestCase):
    def test_answer(self):
        self.assertEqual(ask(BEGIN), [[0]])

    def test_memory_is_zero_again(self):
        parts = ask(write(0, [1, 2, 3]), write(SIZE - 1, [9]), BEGIN, read(0, 3), read(SIZE - 1, 1))
        self.assertEqual(parts[3:], [[3, 0, 0, 0], [1, 0]])

    def test_place_is_zero_again(self):
        parts = ask(go(SIZE), BEGIN, write(0, OTHER_TRAP), run(1))
        self.assertEqual(parts[-1], [2])
        # GETA $255,0 tells the place itself.
        see = code((0xF4, 255, 0), (0xAF, 255, 254, 64))
        self.assertEqual(ask(write(0, see), run(2), read(64, 8))[2], [8] + octa(0))
        self.assertEqual(ask(go(7), BEGIN, write(0, see), run(2), read(64, 8))[4], [8] + octa(0))

    def test_registers_are_zero_again(self):
        setup = constant(4, MASK) + constant(255, MASK)
        parts = ask(
            write(0, code(*setup)), run(len(setup)), BEGIN,
            write(0, STORE_4_AT_64 + STORE_255_AT_72), write(64, [7] * 16), run(2), read(64, 16),
        )
        self.assertEqual(parts[1], [0])
        self.assertEqual(parts[5:], [[0], [16] + [0] * 16])

    def test_special_registers_are_as_at_the_beginning(self):
        change = [(0xF7, number, 0, 77) for number in (0, 1, 2, 3, 4, 5, 6, 7, 19, 21, 22, 23, 24, 25, 26, 27, 28, 29)]
        see = []
        for number in range(32):
            see += [(0xFE, 255, 0, number), (0xAF, 255, 254, 8 * number)]
        parts = ask(
            write(0x1000, code(*change)), go(0x1000), run(len(change)), BEGIN,
            write(0x1000, code(*see)), go(0x1000), run(len(see)), read(0, 256),
        )
        self.assertEqual(parts[2], [0])
        expected = []
        for number in range(32):
            expected += octa(255 if number == 19 else 0)
        self.assertEqual(parts[-1], [256] + expected)

    def test_there_are_no_locals(self):
        program = code((0xE3, 9, 1))
        see = code((0xFE, 255, 0, 20), (0xAF, 255, 254, 64))
        parts = ask(write(0, program), run(1), BEGIN, write(0, see), run(2), read(64, 8))
        self.assertEqual(parts[-1], [8] + octa(0))

    def test_nothing_is_pushed(self):
        parts = ask(write(0, [0xF2, 0, 0, 1, 0xF8, 0, 0, 0]), run(1), BEGIN, write(0, [0xF8, 0, 0, 0]), run(1))
        self.assertEqual(parts[1], [0])
        self.assertEqual(parts[-1], [-4])

    def test_a_new_object_is_as_behind_begin(self):
        see = [(0xAF, 4, 254, 64), (0xFE, 255, 0, 19), (0xAF, 255, 254, 72), (0xFE, 255, 0, 20), (0xAF, 255, 254, 80)]
        calls = [read(0, 100), run(1), go(0), write(0, code(*see)), run(5), read(64, 24)]
        self.assertEqual(ask(*calls), ask(BEGIN, *calls)[1:])
        self.assertEqual(ask(*calls)[-1], [24] + octa(0) + octa(255) + octa(0))


class WriteAndRead(unittest.TestCase):
    def test_no_bytes(self):
        self.assertEqual(ask(write(5, []), read(5, 0), read(4, 3)), [[0], [0], [3, 0, 0, 0]])

    def test_one_byte(self):
        self.assertEqual(ask(write(5, [255]), read(5, 1)), [[0], [1, 255]])

    def test_many_bytes(self):
        data = [(7 * k + k // 256) % 256 for k in range(15000)]
        self.assertEqual(ask(write(3, data), read(3, 15000)), [[0], [15000] + data])

    def test_every_start_within_a_word(self):
        for start in range(16):
            for count in range(20):
                data = list(range(1, count + 1))
                parts = ask(write(start, data), read(0, 40))
                self.assertEqual(parts[1], [40] + [0] * start + data + [0] * (40 - start - count))

    def test_bytes_beside_stay(self):
        parts = ask(write(100, [1, 2, 3, 4, 5]), write(102, [9]), read(98, 9))
        self.assertEqual(parts[2], [9, 0, 0, 1, 2, 9, 4, 5, 0, 0])

    def test_just_at_the_end(self):
        parts = ask(write(SIZE - 3, [1, 2, 3]), read(SIZE - 3, 3), read(SIZE - 1, 1))
        self.assertEqual(parts, [[0], [3, 1, 2, 3], [1, 3]])

    def test_no_bytes_at_the_end(self):
        self.assertEqual(ask(write(SIZE, []), read(SIZE, 0)), [[0], [0]])
        self.assertEqual(ask(write(SIZE + 1, []), read(SIZE + 1, 0)), [[-1], [-1]])

    def test_one_past_the_end(self):
        parts = ask(write(SIZE - 3, [1, 2, 3]), write(SIZE - 3, [7, 7, 7, 7]), read(SIZE - 3, 4), read(SIZE - 3, 3))
        self.assertEqual(parts, [[0], [-1], [-1], [3, 1, 2, 3]])
        self.assertEqual(ask(write(SIZE, [1]), read(SIZE, 1)), [[-1], [-1]])

    def test_far_past_memory(self):
        for place in (SIZE + 5, 1 << 32, 1 << 63, MASK - 1, MASK):
            parts = ask(write(place, [1, 2, 3]), read(place, 3), read(0, 8))
            self.assertEqual(parts, [[-1], [-1], [8] + [0] * 8])

    def test_how_many_are_read(self):
        for count in (-2147483648, -1, 65537, 2147483647):
            self.assertEqual(ask(read(0, count)), [[-8]])
        self.assertEqual(ask(read(0, 0)), [[0]])
        self.assertEqual(ask(read(0, 65536)), [[65536] + [0] * 65536])
        self.assertEqual(ask(read(SIZE - 65536, 65536)), [[65536] + [0] * 65536])

    def test_8_comes_before_1(self):
        for place in (SIZE, MASK):
            self.assertEqual(ask(read(place, -1), read(place, 65537)), [[-8], [-8]])
            self.assertEqual(ask(read(place, 65536)), [[-1]])

    def test_write_of_too_many(self):
        self.assertEqual(ask(write(0, [1] * 65537), read(0, 2)), [[-8], [2, 0, 0]])
        self.assertEqual(ask(write(SIZE, [1] * 65537)), [[-8]])
        self.assertEqual(ask(write(SIZE - 65536, [1] * 65536), read(SIZE - 1, 1)), [[0], [1, 1]])

    def test_a_refusal_changes_nothing(self):
        calls = [write(0, NOTHING + TRAP), run(1)]
        refused = [write(MASK, [1]), read(0, -1), read(SIZE, 1), run(-1)]
        parts = ask(*calls, *refused, run(1), read(0, 8))
        self.assertEqual(parts[2:], [[-1], [-8], [-1], [-8], [1], [8] + NOTHING + TRAP])


class Go(unittest.TestCase):
    def test_the_next_instruction_is_there(self):
        parts = ask(write(400, OTHER_TRAP), go(400), run(1), go(396), run(1))
        self.assertEqual(parts, [[0], [0], [2], [0], [1]])

    def test_no_multiple_of_4(self):
        for place in (400, 401, 402, 403):
            parts = ask(write(400, OTHER_TRAP), go(place), run(1), run(1))
            self.assertEqual(parts[1:], [[0], [2], [1]])
        self.assertEqual(ask(write(400, OTHER_TRAP), go(404), run(1))[2], [1])
        self.assertEqual(ask(write(400, OTHER_TRAP), go(399), run(1))[2], [1])

    def test_the_place_keeps_what_it_has_past_a_multiple_of_4(self):
        # GETA $255,1 and a store: the target counts from the place itself.
        parts = ask(write(400, code((0xF4, 255, 1), (0xAF, 255, 254, 64))), go(403), run(2), read(64, 8))
        self.assertEqual(parts[2:], [[0], [8] + octa(407)])

    def test_past_memory(self):
        for place in (SIZE, SIZE + 1, 1 << 40, MASK):
            self.assertEqual(ask(go(place), run(0), run(1), run(1), go(0), run(1)), [[0], [0], [-1], [-1], [0], [1]])
        self.assertEqual(ask(go(SIZE - 1), run(1), run(1)), [[0], [1], [-1]])


class Place(unittest.TestCase):
    FAULTS = (
        (-1, (0x8D, 1, 255, 0)), (-2, (0xFF, 0, 0, 0)), (-2, (0x05, 1, 5, 1)), (-3, (0xFE, 1, 0, 32)),
        (-3, (0xF7, 8, 0, 0)), (-4, (0xF8, 0, 0, 0)),
    )

    def test_at_the_beginning(self):
        self.assertEqual(ask(PLACE), [[0, 0]])
        self.assertEqual(ask(go(44), BEGIN, PLACE), [[0], [0], [0, 0]])
        self.assertEqual(ask(run(3), BEGIN, PLACE), [[1], [0], [0, 0]])

    def test_behind_go(self):
        for place in (0, 1, 2, 3, 4, 400, 401, 402, 403, SIZE - 1, SIZE, SIZE + 3, 1 << 63, MASK):
            self.assertEqual(ask(go(place), PLACE, PLACE), [[0], [0, place], [0, place]])

    def test_behind_a_run(self):
        for start in (0, 400):
            calls = [write(start, NOTHING * 5 + TRAP), go(start)]
            for steps in range(6):
                self.assertEqual(ask(*calls, run(steps), PLACE)[2:], [[0], [0, start + 4 * steps]])
            self.assertEqual(ask(*calls, run(2), run(0), run(1), PLACE)[4:], [[0], [0, start + 12]])

    def test_behind_no_steps_where_no_instruction_can_be(self):
        for place in (3, SIZE, MASK):
            self.assertEqual(ask(go(place), run(0), PLACE), [[0], [0], [0, place]])

    def test_behind_a_run_from_no_multiple_of_4(self):
        for place in (401, 402, 403):
            calls = [write(400, NOTHING * 2 + TRAP), go(place)]
            self.assertEqual(ask(*calls, run(2), PLACE)[2:], [[0], [0, place + 8]])
            self.assertEqual(ask(*calls, run(3), PLACE)[2:], [[1], [0, place + 12]])

    def test_behind_a_trap(self):
        for trap, answer in ((TRAP, 1), (OTHER_TRAP, 2)):
            parts = ask(write(400, NOTHING + trap), go(400), run(9), PLACE, run(1), PLACE)
            self.assertEqual(parts[2:], [[answer], [0, 408], [1], [0, 412]])
        self.assertEqual(ask(go(SIZE - 4), run(5), PLACE), [[0], [1], [0, SIZE]])

    def test_behind_a_fault(self):
        for fault, bad in self.FAULTS:
            calls = [give(255, SIZE), write(400, NOTHING * 2 + code(bad) + TRAP), go(400)]
            self.assertEqual(ask(*calls, run(9), PLACE, run(1), PLACE)[3:], [[fault], [0, 408]] * 2)
            self.assertEqual(ask(*calls, run(3), PLACE)[3:], [[fault], [0, 408]])
            self.assertEqual(ask(*calls, run(2), PLACE)[3:], [[0], [0, 408]])

    def test_behind_too_much_pushed(self):
        parts = ask(write(400, NOTHING + code((0xF2, 0, 0))), go(400), run(65537), PLACE, run(1), PLACE, special(4))
        self.assertEqual(parts[2:], [[0], [0, 404], [-5], [0, 404], [0, 408]])

    def test_behind_an_instruction_past_memory(self):
        parts = ask(write(SIZE - 4, NOTHING), go(SIZE - 4), run(2), PLACE, run(1), PLACE)
        self.assertEqual(parts[2:], [[-1], [0, SIZE], [-1], [0, SIZE]])
        for place in (SIZE + 1, MASK):
            self.assertEqual(ask(go(place), run(1), PLACE), [[0], [-1], [0, place]])

    def test_behind_refusals(self):
        parts = ask(go(44), run(-1), PLACE, read(0, -1), PLACE, write(SIZE, [1]), PLACE)
        self.assertEqual(parts[1:], [[-8], [0, 44], [-8], [0, 44], [-1], [0, 44]])

    def test_other_calls_leave_it(self):
        parts = ask(go(43), write(0, [1]), read(0, 1), give(3, 9), special(3), PLACE)
        self.assertEqual(parts[-1], [0, 43])


if __name__ == "__main__":
    unittest.main()

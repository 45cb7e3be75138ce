"""get, set, special (point 3), and registers as they tell them (point 5)."""

import unittest

from helper import BEGIN, MASK, PLACE, SIZE, ask, code, get, give, go, read, run, special, write
from wordrunner.desk import answers

NOT_THERE = (-2147483648, -256, -1, 256, 257, 65536, 2147483647)
NO_SPECIAL = (-2147483648, -32, -1, 32, 33, 255, 256, 2147483647)
RH, RJ, RR, RG, RL, RA, RP, RXX = 3, 4, 6, 19, 20, 21, 23, 29


def behind(calls, program, *asked):
    """Makes the calls, runs the program at 0x2000 whole, and tells what the asked calls answer."""
    calls = list(calls) + [write(0x2000, code(*program)), go(0x2000), run(len(program))]
    parts = ask(*calls, *asked)
    return parts[len(calls) - 1:]


def put_rg(first):
    """Calls that make the registers from the first on global."""
    return [write(0, code((0xF7, RG, 0, first))), go(0), run(1)]


def locals_of(*calls):
    return ask(*calls, special(RL))[-1]


class Get(unittest.TestCase):
    def test_form(self):
        self.assertEqual(answers([6, 0]), [2, 0, 0])
        self.assertEqual(answers([6, 255]), [2, 0, 0])
        self.assertEqual(answers([6, 256]), [1, -8])
        self.assertEqual(answers([6, -1]), [1, -8])

    def test_all_are_0_at_the_beginning(self):
        for start in range(0, 256, 64):
            self.assertEqual(ask(*[get(number) for number in range(start, start + 64)]), [[0, 0]] * 64)

    def test_what_is_not_there(self):
        for number in NOT_THERE:
            self.assertEqual(ask(get(number), get(number)), [[-8], [-8]])

    def test_get_makes_no_local(self):
        for number in (0, 5, 200, 254, 255):
            self.assertEqual(locals_of(get(number)), [0, 0])
            self.assertEqual(locals_of(give(3, 9), get(number)), [0, 4])

    def test_one_above_the_locals_is_0(self):
        self.assertEqual(ask(give(3, 9), get(4), get(3), get(2), special(RL)), [[0], [0, 0], [0, 9], [0, 0], [0, 4]])

    def test_what_instructions_left(self):
        parts = behind([give(1, 40), give(2, 2)], [(0x20, 3, 1, 2), (0x20, 255, 3, 1)], get(3), get(255), get(1))
        self.assertEqual(parts, [[0], [0, 42], [0, 82], [0, 40]])


class Set(unittest.TestCase):
    def test_form(self):
        self.assertEqual(answers([7, 0, 5]), [1, 0])
        self.assertEqual(answers([7, 255, MASK]), [1, 0])
        self.assertEqual(answers([7, 256, 5]), [1, -8])
        self.assertEqual(answers([7, -1, 5]), [1, -8])

    def test_words(self):
        for number in (0, 1, 31, 32, 254, 255):
            for word in (0, 1, 1 << 63, MASK):
                self.assertEqual(ask(give(number, word), get(number)), [[0], [0, word]])
                self.assertEqual(ask(give(number, 77), give(number, word), get(number)), [[0], [0], [0, word]])

    def test_each_has_its_own(self):
        calls = [give(number, 1000 + number) for number in range(45)] + [give(255, 9)]
        self.assertEqual(ask(*calls, *[get(number) for number in range(45)])[46:], [[0, 1000 + k] for k in range(45)])
        for start in range(0, 256, 45):
            numbers = range(start, min(start + 45, 256))
            parts = ask(*[give(number, MASK - number) for number in numbers], *[get(number) for number in numbers])
            self.assertEqual(parts[len(numbers):], [[0, MASK - number] for number in numbers])

    def test_one_that_is_set_is_local_and_those_below_it(self):
        for number in (0, 1, 9, 200, 254):
            self.assertEqual(locals_of(give(number, 5)), [0, number + 1])
            self.assertEqual(locals_of(give(number, 0)), [0, number + 1])
        parts = ask(give(2, 7), give(9, 5), *[get(number) for number in range(11)], special(RL))
        self.assertEqual([part[1] for part in parts[2:]], [0, 0, 7, 0, 0, 0, 0, 0, 0, 5, 0, 10])

    def test_one_below_the_locals_makes_no_more(self):
        self.assertEqual(locals_of(give(9, 5), give(4, 6)), [0, 10])
        self.assertEqual(locals_of(give(9, 5), give(9, 6)), [0, 10])

    def test_a_global_one_makes_no_local(self):
        self.assertEqual(locals_of(give(255, 5)), [0, 0])
        self.assertEqual(locals_of(give(3, 1), give(255, 5)), [0, 4])

    def test_on_both_sides_of_rg(self):
        for first in (32, 100, 254):
            calls = [*put_rg(first), give(first, 5), give(255, 6)]
            parts = ask(*calls, special(RL), give(first - 1, 7), special(RL), get(first - 1), get(first), get(255))
            self.assertEqual(parts[5:], [[0, 0], [0], [0, first], [0, 7], [0, 5], [0, 6]])

    def test_a_global_one_that_is_global_no_more(self):
        calls = [*put_rg(40), give(40, 5), give(50, 6), *put_rg(50)]
        self.assertEqual(ask(*calls, get(40), get(50), special(RL))[-3:], [[0, 0], [0, 6], [0, 0]])
        self.assertEqual(ask(*calls, give(45, 1), get(40), get(45), special(RL))[-3:], [[0, 0], [0, 1], [0, 46]])
        self.assertEqual(ask(*calls, *put_rg(40), get(40), get(50))[-2:], [[0, 0], [0, 6]])

    def test_those_below_one_that_is_set_are_0_again(self):
        # $5 was 9 before rL was 3.
        calls = [give(5, 9), write(0, code((0xF7, RL, 0, 3))), run(1)]
        self.assertEqual(ask(*calls, get(5), special(RL))[-2:], [[0, 0], [0, 3]])
        self.assertEqual(ask(*calls, give(7, 1), get(5), get(7), special(RL))[-3:], [[0, 0], [0, 1], [0, 8]])

    def test_a_refusal_changes_nothing(self):
        ahead = [give(3, 9), give(255, 8), go(12)]
        asked = [*[get(number) for number in range(6)], get(254), get(255), special(RL), PLACE, read(0, 16)]
        expected = ask(*ahead, *asked)[3:]
        for number in NOT_THERE:
            parts = ask(*ahead, give(number, MASK), get(number), special(number), *asked)
            self.assertEqual(parts[3:5], [[-8], [-8]])
            self.assertEqual(parts[6:], expected)

    def test_begin_takes_all_back(self):
        parts = ask(give(4, 9), give(255, 8), BEGIN, get(4), get(255), special(RL), PLACE)
        self.assertEqual(parts[3:], [[0, 0]] * 4)
        parts = ask(*put_rg(40), give(40, 9), BEGIN, get(40), special(RG), give(40, 1), special(RL))
        self.assertEqual(parts[5:], [[0, 0], [0, 255], [0], [0, 41]])

    def test_instructions_take_what_was_set(self):
        parts = behind([give(1, 64), give(2, MASK)], [(0xAE, 2, 1, 0)], read(64, 8), get(2), PLACE)
        self.assertEqual(parts, [[0], [8] + [255] * 8, [0, MASK], [0, 0x2004]])

    def test_a_run_is_told_by_what_was_set(self):
        # The sum of the numbers from $1 down.
        program = [(0x22, 3, 3, 1), (0x27, 1, 1, 1), (0x5B, 1, 65534), (0, 0, 0, 0)]
        calls = [give(1, 100), write(0, code(*program)), run(100000), get(3), get(1), special(RL), PLACE]
        self.assertEqual(ask(*calls)[2:], [[1], [0, 5050], [0, 0], [0, 4], [0, 16]])


class Special(unittest.TestCase):
    def test_form(self):
        self.assertEqual(answers([8, 0]), [2, 0, 0])
        self.assertEqual(answers([8, 31]), [2, 0, 0])
        self.assertEqual(answers([8, 32]), [1, -8])
        self.assertEqual(answers([8, -1]), [1, -8])

    def test_at_the_beginning(self):
        parts = ask(*[special(number) for number in range(32)])
        self.assertEqual(parts, [[0, 255 if number == RG else 0] for number in range(32)])
        parts = ask(give(5, 1), write(0, code((0xF7, 22, 0, 9))), run(1), BEGIN, *[special(k) for k in range(32)])
        self.assertEqual(parts[4:], [[0, 255 if number == RG else 0] for number in range(32)])

    def test_what_is_not_there(self):
        for number in NO_SPECIAL:
            self.assertEqual(ask(special(number), special(number), special(0)), [[-8], [-8], [0, 0]])

    def test_what_was_put(self):
        for number in (0, 1, 2, 3, 4, 5, 6, 7, 22, 23, 24, 25, 26, 27, 28, 29, 30, 31):
            parts = behind([give(255, MASK - number)], [(0xF6, number, 0, 255)], *[special(k) for k in range(32)])
            expected = [[0, 255 if k == RG else 0] for k in range(32)]
            expected[number] = [0, MASK - number]
            self.assertEqual(parts, [[0]] + expected)

    def test_rl_by_set_and_by_instructions(self):
        self.assertEqual(behind([give(2, 1)], [(0xE3, 6, 1)], special(RL)), [[0], [0, 7]])
        self.assertEqual(behind([give(9, 1)], [(0xE3, 6, 1)], special(RL)), [[0], [0, 10]])
        self.assertEqual(behind([give(2, 1)], [(0xE3, 255, 1)], special(RL)), [[0], [0, 3]])
        self.assertEqual(behind([give(2, 1)], [(0x20, 2, 8, 9)], special(RL)), [[0], [0, 3]])

    def test_rl_by_put(self):
        for word, expected in ((0, 0), (4, 4), (10, 10), (11, 10), (MASK, 10)):
            parts = behind([give(9, 1), give(255, word)], [(0xF6, RL, 0, 255)], special(RL), get(9))
            self.assertEqual(parts, [[0], [0, expected], [0, 1 if expected == 10 else 0]])

    def test_rl_by_pushes_and_pops(self):
        ahead = [give(number, 10 + number) for number in range(6)]
        self.assertEqual(behind(ahead, [(0xF2, 2, 1)], special(RL), get(0), get(2), get(3)),
                         [[0], [0, 3], [0, 13], [0, 15], [0, 0]])
        self.assertEqual(behind(ahead, [(0xF2, 2, 1), (0xF8, 2, 1)], special(RL), get(2), get(3), get(4)),
                         [[0], [0, 4], [0, 14], [0, 13], [0, 0]])
        self.assertEqual(behind(ahead, [(0xF2, 2, 1), (0xF8, 0, 1)], special(RL), get(1)), [[0], [0, 2], [0, 11]])
        self.assertEqual(behind(ahead, [(0xF2, 9, 1)], special(RL)), [[0], [0, 0]])
        self.assertEqual(behind(ahead, [(0xF2, 9, 1), (0xF8, 0, 1)], special(RL), get(5)), [[0], [0, 9], [0, 15]])
        self.assertEqual(behind(ahead, [(0xBF, 255, 254, 0)], special(RL), PLACE), [[0], [0, 0], [0, 0]])

    def test_set_between_a_push_and_a_pop(self):
        program = [(0xF2, 1, 1), (0xF8, 2, 0)]
        parts = ask(
            give(0, 5), give(1, 6), write(0, code(*program)), run(1), special(RL), give(0, 70), give(1, 71), special(RL),
            run(1), special(RL), get(0), get(1), get(2), get(3), PLACE,
        )
        self.assertEqual(parts[3:8], [[0], [0, 0], [0], [0], [0, 2]])
        self.assertEqual(parts[8:], [[0], [0, 3], [0, 5], [0, 71], [0, 70], [0, 0], [0, 4]])

    def test_rl_with_all_local(self):
        self.assertEqual(locals_of(give(254, 1)), [0, 255])
        self.assertEqual(locals_of(*put_rg(32), give(31, 1)), [0, 32])

    def test_rg(self):
        for first in (32, 33, 254, 255):
            self.assertEqual(ask(*put_rg(first), special(RG), PLACE)[2:], [[0], [0, first], [0, 4]])
        for first in (0, 31):
            self.assertEqual(ask(*put_rg(first), special(RG), PLACE)[2:], [[-3], [0, 255], [0, 0]])
        self.assertEqual(ask(give(40, 1), *put_rg(40), special(RG), get(40))[3:], [[-3], [0, 255], [0, 1]])
        self.assertEqual(ask(give(40, 1), *put_rg(41), special(RG), get(40))[3:], [[0], [0, 41], [0, 1]])

    def test_ra_behind_flags(self):
        one, three = 0x3FF0 << 48, 0x4008 << 48
        self.assertEqual(behind([give(1, one), give(2, three)], [(0x14, 3, 1, 2)], special(RA)), [[0], [0, 1]])
        self.assertEqual(behind([give(1, one)], [(0x14, 3, 1, 2), (0x1D, 3, 1, 0)], special(RA)), [[0], [0, 130]])
        self.assertEqual(behind([give(1, 1 << 63)], [(0x25, 3, 1, 1)], special(RA)), [[0], [0, 64]])
        self.assertEqual(behind([give(1, 1 << 63)], [(0x27, 3, 1, 1)], special(RA)), [[0], [0, 0]])
        self.assertEqual(behind([give(1, 0x30012)], [(0xF6, RA, 0, 1)], special(RA)), [[0], [0, 0x30012]])

    def test_rxx_behind_a_trap(self):
        self.assertEqual(behind([], [(0, 1, 2, 3)], special(RXX), PLACE), [[2], [0, 0x010203], [0, 0x2004]])
        self.assertEqual(behind([], [(0xF7, RXX, 0, 5), (0, 0, 0, 0)], special(RXX)), [[1], [0, 0]])

    def test_those_that_instructions_set(self):
        ahead = [give(1, MASK), give(2, 10)]
        self.assertEqual(behind(ahead, [(0x1A, 3, 1, 2)], special(RH), get(3)), [[0], [0, 9], [0, MASK - 9]])
        self.assertEqual(behind(ahead, [(0x1F, 3, 1, 10)], special(RR)), [[0], [0, 5]])
        self.assertEqual(behind(ahead, [(0x1D, 3, 1, 10)], special(RR), get(3)), [[0], [0, 9], [0, MASK]])
        self.assertEqual(behind(ahead, [(0xF2, 0, 5)], special(RJ), PLACE), [[0], [0, 0x2004], [0, 0x2014]])
        memory = write(64, [0, 0, 0, 0, 0, 0, 1, 2])
        self.assertEqual(behind([memory], [(0x95, 3, 1, 64)], special(RP), get(3)), [[0], [0, 0x102], [0, 0]])

    def test_asking_changes_nothing(self):
        calls = [give(3, 9), go(SIZE)]
        asked = [special(number) for number in range(32)] + [get(number) for number in (0, 3, 4, 255)] + [PLACE]
        parts = ask(*calls, *asked, *asked)
        self.assertEqual(parts[2:2 + len(asked)], parts[2 + len(asked):])


if __name__ == "__main__":
    unittest.main()

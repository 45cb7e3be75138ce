"""Global and local registers, GET and PUT, what is pushed and popped (points 5, 12, 13, 14)."""

import unittest

from helper import MASK, PROGRAM, after, ask, code, constant, go, octas, read, run, write

NEXT = 1  # a PUSHJ with this YZ goes to the instruction behind it
RJ, RG, RL, RA = 4, 19, 20, 21


def push(x):
    return (0xF2, x, NEXT)


def pop(x):
    """POP X,0."""
    return (0xF8, x, 0)


def popped(program, x, registers=None, see=tuple(range(12))):
    """Runs the program, then a POP X; where that leads is not looked at."""
    return after([*program, pop(x)], registers, see=see)


class GlobalAndLocal(unittest.TestCase):
    def test_one_that_is_set_is_local_and_those_below_it(self):
        for number in (0, 1, 9, 253):
            state = after([(0xE3, number, 5)])
            self.assertEqual(state.specials[RL], number + 1)
        self.assertEqual(after([(0xE3, 9, 5), (0xE3, 4, 5)]).specials[RL], 10)

    def test_global_ones_make_no_local(self):
        self.assertEqual(after([(0xE3, 255, 5)], see=(255,)).registers[255], 5)
        self.assertEqual(after([(0xE3, 255, 5)]).specials[RL], 0)
        state = after([(0xE3, 32, 5)], specials={RG: 32}, see=(32,))
        self.assertEqual((state.specials[RL], state.registers[32]), (0, 5))

    def test_254_is_the_last_local_at_the_beginning(self):
        parts = ask(write(0, code((0xE3, 254, 5), (0xFE, 255, 0, RL), (0xAF, 255, 253, 64))), run(3), read(64, 8))
        self.assertEqual(octas(parts[2][1:]), [255])

    def test_those_that_are_not_local_are_0(self):
        # $5 is 9; with rL 3 it is 0, and stays 0 when it is local again.
        state = after([(0xE3, 5, 9), (0xF7, RL, 0, 3), (0xE3, 7, 1)], see=(5, 7))
        self.assertEqual((state.registers, state.specials[RL]), ({5: 0, 7: 1}, 8))
        state = after([(0xE3, 5, 9), (0xF7, RL, 0, 3)], see=(5,))
        self.assertEqual((state.registers, state.specials[RL]), ({5: 0}, 3))


class GetAndPut(unittest.TestCase):
    FREE = (0, 1, 2, 3, 4, 5, 6, 7, 22, 23, 24, 25, 26, 27, 28, 29, 30, 31)

    def test_free_ones(self):
        specials = {number: MASK - number for number in self.FREE}
        state = after([], specials=specials)
        for number in range(32):
            expected = specials.get(number, 255 if number == RG else 0)
            self.assertEqual(state.specials[number], expected)

    def test_odd_put(self):
        self.assertEqual(after([(0xF7, 22, 0, 200)], {200: 9}).specials[22], 200)

    def test_get(self):
        self.assertEqual(after([(0xFE, 3, 0, 22)], specials={22: 7}).registers[3], 7)
        self.assertEqual(after([(0xFE, 3, 0, RL)], {1: 5}).registers[3], 2)
        self.assertEqual(after([(0xFE, 3, 0, RG)]).registers[3], 255)
        self.assertEqual(after([(0xFE, 3, 0, 31)], specials={31: 8}).answer, 0)

    def test_rl(self):
        for value, expected in ((0, 0), (3, 3), (5, 5), (6, 6), (7, 6), (MASK, 6)):
            state = after([(0xF6, RL, 0, 255)], {5: 9, 255: value})
            self.assertEqual((state.answer, state.specials[RL]), (0, expected))

    def test_rg(self):
        for value, answer in ((31, -3), (32, 0), (254, 0), (255, 0), (256, -3), (0, -3), (MASK, -3), (1 << 32, -3)):
            state = after([(0xF6, RG, 0, 255)], {255: value})
            self.assertEqual((state.answer, state.specials[RG]), (answer, value if answer == 0 else 255))

    def test_rg_is_not_below_rl(self):
        for value, answer in ((39, -3), (40, 0), (41, 0)):
            state = after([(0xF7, RG, 0, value)], {39: 7}, see=(39,))
            self.assertEqual((state.answer, state.specials[RL], state.registers[39]), (answer, 40, 7))

    def test_those_that_become_global_are_0(self):
        program = [(0xF7, RG, 0, 40), (0xE3, 40, 1), (0xE3, 50, 2), (0xE3, 255, 3), (0xF7, RG, 0, 50)]
        see = (40, 49, 50, 255)
        self.assertEqual(after(program, see=see).registers, {40: 0, 49: 0, 50: 2, 255: 3})
        state = after(program + [(0xF7, RG, 0, 32)], see=see)
        self.assertEqual(state.registers, {40: 0, 49: 0, 50: 2, 255: 3})
        self.assertEqual(after(program + [(0xE3, 45, 1)], see=(45,)).specials[RL], 46)

    def test_ra(self):
        for value, answer in (
            (0, 0), (255, 0), (0x30000, 0), (0x300FF, 0), (0x40000, -3), (0x100, -3), (0x8000, -3), (0x200FF, 0),
            (0x1FF, -3), (MASK, -3), (1 << 63, -3),
        ):
            state = after([(0xF6, RA, 0, 255)], {255: value}, {RA: 0x10001})
            self.assertEqual((state.answer, state.specials[RA]), (answer, value if answer == 0 else 0x10001))


class Pushes(unittest.TestCase):
    LOCALS = {0: 10, 1: 11, 2: 12, 3: 13, 4: 14}

    def test_the_others_become_the_first(self):
        state = after([push(1)], self.LOCALS, see=(0, 1, 2, 3, 4))
        self.assertEqual((state.registers, state.specials[RL]), ({0: 12, 1: 13, 2: 14, 3: 0, 4: 0}, 3))

    def test_0(self):
        state = after([push(0)], self.LOCALS, see=(0, 1, 2, 3, 4))
        self.assertEqual((state.registers, state.specials[RL]), ({0: 11, 1: 12, 2: 13, 3: 14, 4: 0}, 4))

    def test_past_the_locals(self):
        for x in (4, 5, 9, 254):
            state = after([push(x)], self.LOCALS, see=(0, 1))
            self.assertEqual((state.registers, state.specials[RL]), ({0: 0, 1: 0}, 0))
            again = popped([push(x)], 0, self.LOCALS)
            self.assertEqual(again.specials[RL], x)
            self.assertEqual([again.registers[k] for k in range(5)], [10, 11, 12, 13, 14 if x > 4 else 0])

    def test_from_rg_on_all_locals_are_pushed(self):
        again = popped([push(255)], 0, self.LOCALS)
        self.assertEqual(again.specials[RL], 5)
        self.assertEqual([again.registers[k] for k in range(6)], [10, 11, 12, 13, 14, 0])
        state = after([push(255)], self.LOCALS)
        self.assertEqual(state.specials[RL], 0)

    def test_all_registers_below_rg_are_local(self):
        registers = {number: 100 + number for number in range(32)}
        state = popped([(0xF7, RG, 0, 32), (0xE3, 40, 7), push(40)], 0, registers, see=(0, 31, 40))
        self.assertEqual((state.registers, state.specials[RL]), ({0: 100, 31: 131, 40: 7}, 32))

    def test_globals_stay(self):
        self.assertEqual(after([(0xE3, 255, 8), push(3)], self.LOCALS, see=(255,)).registers[255], 8)

    def test_rj_and_the_target(self):
        state = after([(0xF2, 1, 5)], self.LOCALS)
        self.assertEqual(state.specials[RJ], PROGRAM + 4)
        trap = [0, 0, 0, 9]
        for program, registers, target in (
            ((0xF2, 1, 5), {}, PROGRAM + 20), ((0xF3, 1, 65536 - 5), {}, PROGRAM - 20),
            ((0xBE, 0, 1, 2), {1: 0x5000, 2: 0x20}, 0x5020), ((0xBF, 0, 1, 8), {1: 0x5000}, 0x5008),
            ((0xBF, 3, 1, 8), {1: 0x5000}, 0x5008),
        ):
            state = after([program], registers, memory=[(target, trap)], steps=2)
            self.assertEqual((state.answer, state.specials[29], state.specials[RJ]), (2, 9, PROGRAM + 4))

    def test_pushgo_pushes_the_same_way(self):
        for x in (0, 1, 4, 9, 255):
            jump = after([push(x)], self.LOCALS, see=(0, 1, 2, 3, 4))
            goes = after([(0xBF, x, 254, 0)], self.LOCALS, see=(0, 1, 2, 3, 4))
            self.assertEqual((goes.registers, goes.specials), (jump.registers, jump.specials))


class Pops(unittest.TestCase):
    LOCALS = {0: 10, 1: 11, 2: 12}
    INNER = [push(2), (0xE3, 0, 50), (0xE3, 1, 51), (0xE3, 2, 52)]

    def locals_after(self, x):
        state = popped(self.INNER, x, self.LOCALS)
        return [state.registers[k] for k in range(state.specials[RL])]

    def test_results(self):
        self.assertEqual(self.locals_after(0), [10, 11])
        self.assertEqual(self.locals_after(1), [10, 11, 50])
        self.assertEqual(self.locals_after(2), [10, 11, 51, 50])
        self.assertEqual(self.locals_after(3), [10, 11, 52, 50, 51])

    def test_more_than_there_are(self):
        for x in (4, 5, 255):
            self.assertEqual(self.locals_after(x), [10, 11, 0, 50, 51, 52])

    def test_more_than_there_are_where_all_below_rg_are_local(self):
        # $32 is global: it is none of the locals that were there before, so $1 is 0.
        inner = [push(1), (0xF7, RG, 0, 32), (0xE3, 32, 99), (0xE3, 31, 7), (0xE3, 0, 8)]
        state = popped(inner, 40, {0: 5}, see=(0, 1, 2, 31, 32))
        self.assertEqual(state.registers, {0: 5, 1: 0, 2: 8, 31: 0, 32: 99})

    def test_one_behind_another(self):
        # rJ leads back behind the second push: the first POP goes on to the second by its YZ.
        program = [push(2), (0xE3, 0, 50), (0xE3, 1, 51), push(1), (0xE3, 0, 70), (0xF8, 1, 2), pop(2)]
        state = after(program, self.LOCALS, see=tuple(range(6)))
        self.assertEqual([state.registers[k] for k in range(state.specials[RL])], [10, 11, 70, 50])

    def test_no_more_than_rg(self):
        registers = {number: 100 + number for number in range(40)}
        inner = [(0xF7, RG, 0, 32), (0xE3, 0, 7), (0xE3, 1, 8)]
        see = (0, 28, 29, 30, 31, 32)
        state = popped([push(30), (0xF7, RL, 0, 0), *inner], 2, registers, see=see)
        self.assertEqual(state.registers, {0: 100, 28: 128, 29: 129, 30: 8, 31: 7, 32: 0})
        self.assertEqual(state.specials[RL], 32)
        state = popped([push(31), (0xF7, RL, 0, 0), *inner], 2, registers, see=see)
        self.assertEqual(state.registers, {0: 100, 28: 128, 29: 129, 30: 130, 31: 8, 32: 0})
        self.assertEqual(state.specials[RL], 32)
        state = popped([push(39), (0xF7, RL, 0, 0), *inner], 2, registers, see=see)
        self.assertEqual(state.registers, {0: 100, 28: 128, 29: 129, 30: 130, 31: 131, 32: 0})
        self.assertEqual(state.specials[RL], 32)

    def test_where_it_goes(self):
        trap = [0, 0, 0, 9]
        for far in (0, 1, 300, 65535):
            target = 0x6000 + 4 * far
            state = after([push(0), (0xF6, RJ, 0, 255), (0xF8, 0, far)], {255: 0x6000}, memory=[(target, trap)], steps=4)
            self.assertEqual((state.answer, state.specials[29], state.specials[RJ]), (2, 9, 0x6000))

    def test_where_it_goes_counts_round(self):
        parts = ask(
            write(0x1000, code(*constant(255, MASK - 3), push(0), (0xF6, RJ, 0, 255), (0xF8, 0, 2))), go(0x1000),
            write(4, [0, 0, 0, 9]), run(8),
        )
        self.assertEqual(parts[-1], [2])

    def test_a_call_and_its_return(self):
        # $2 = f($3, $4) with f the sum, called twice.
        program = [
            (0xE3, 3, 20), (0xE3, 4, 22), (0xF2, 2, 6), (0xE3, 3, 100), (0x21, 4, 2, 0), (0xF2, 2, 3), (0, 0, 0, 0),
            (0, 0, 0, 9), (0x20, 0, 0, 1), (0xF8, 1, 0),
        ]
        state = after(program, {0: 5, 1: 6}, steps=100)
        self.assertEqual((state.answer, state.specials[RL]), (1, 3))
        self.assertEqual(state.registers, {0: 5, 1: 6, 2: 142, 3: 0})

    def test_deep_recursion(self):
        # f(n) = 0 if n is 0, else n + f(n - 1).
        program = [
            (0xF2, 1, 2), (0, 0, 0, 0),
            (0x42, 0, 6), (0xFE, 1, 0, RJ), (0x25, 3, 0, 1), (0xF3, 2, 65536 - 3),
            (0xF6, RJ, 0, 1), (0x20, 0, 0, 2), (0xF8, 1, 0),
        ]
        state = after(program, {2: 3000}, steps=100000)
        self.assertEqual((state.answer, state.registers[1]), (1, 4501500))


if __name__ == "__main__":
    unittest.main()

"""Whole numbers (point 7)."""

import unittest

from helper import MASK, after, worked

LEAST = 1 << 63
GREATEST = LEAST - 1
SAMPLES = (0, 1, 2, 3, 7, 63, 64, 65, 255, 1 << 31, (1 << 32) + 5, GREATEST, LEAST, LEAST + 1, MASK - 6, MASK - 1, MASK)


def signed(word):
    return word - (1 << 64) if word >= LEAST else word


def overflowed(value):
    return 0 if -LEAST <= value <= GREATEST else 64


class Ordinary(unittest.TestCase):
    def check(self, op, reckon, with_flag):
        for y in SAMPLES:
            for z in SAMPLES:
                value = reckon(y, z)
                state = worked(op, y, z)
                self.assertEqual(state.answer, 0)
                self.assertEqual(state.registers[3], value & MASK, (hex(op), y, z))
                self.assertEqual(state.specials[21], overflowed(value) if with_flag else 0, (hex(op), y, z))

    def test_mul(self):
        self.check(0x18, lambda y, z: signed(y) * signed(z), True)

    def test_sums(self):
        self.check(0x20, lambda y, z: signed(y) + signed(z), True)
        self.check(0x22, lambda y, z: y + z, False)
        self.check(0x24, lambda y, z: signed(y) - signed(z), True)
        self.check(0x26, lambda y, z: y - z, False)

    def test_sums_of_many(self):
        for op, factor in ((0x28, 2), (0x2A, 4), (0x2C, 8), (0x2E, 16)):
            self.check(op, lambda y, z: factor * y + z, False)

    def test_comparisons(self):
        self.check(0x30, lambda y, z: (signed(y) > signed(z)) - (signed(y) < signed(z)), False)
        self.check(0x32, lambda y, z: (y > z) - (y < z), False)

    def test_shifts(self):
        self.check(0x38, lambda y, z: signed(y) << min(z, 100), True)
        self.check(0x3A, lambda y, z: y << min(z, 100), False)
        self.check(0x3C, lambda y, z: signed(y) >> min(z, 100), False)
        self.check(0x3E, lambda y, z: y >> min(z, 100), False)


class WithSpecialRegisters(unittest.TestCase):
    def test_mulu(self):
        for y in SAMPLES:
            for z in SAMPLES:
                state = worked(0x1A, y, z, {3: 99})
                self.assertEqual((state.registers[3], state.specials[3]), (y * z & MASK, y * z >> 64))
                self.assertEqual(state.specials[21], 0)

    def test_div(self):
        for y in SAMPLES:
            for z in SAMPLES:
                if z:
                    state = worked(0x1C, y, z, {6: 99})
                    value = signed(y) // signed(z)
                    self.assertEqual(state.registers[3], value & MASK)
                    self.assertEqual(state.specials[6], (signed(y) - value * signed(z)) & MASK)
                    self.assertEqual(state.specials[21], overflowed(value))

    def test_div_rounds_down(self):
        state = worked(0x1C, -7, 2)
        self.assertEqual((state.registers[3], state.specials[6]), (MASK - 3, 1))
        state = worked(0x1C, 7, -2)
        self.assertEqual((state.registers[3], state.specials[6]), (MASK - 3, MASK))

    def test_div_by_0(self):
        for y in SAMPLES:
            state = worked(0x1C, y, 0, {6: 99})
            self.assertEqual((state.registers[3], state.specials[6], state.specials[21]), (0, y, 128))

    def test_divu(self):
        for high in (0, 1, 5, 1 << 63, MASK):
            for y in SAMPLES:
                for z in SAMPLES:
                    state = worked(0x1E, y, z, {1: high, 6: 99})
                    expected = (high, y) if z <= high else divmod((high << 64) + y, z)
                    self.assertEqual((state.registers[3], state.specials[6]), expected)
                    self.assertEqual((state.specials[1], state.specials[21]), (high, 0))

    def test_rh_and_rr_stay_else(self):
        for op in (0x18, 0x20, 0x22, 0x24, 0x26, 0x28, 0x30, 0x38):
            state = worked(op, 9, 4, {1: 3, 3: 77, 6: 88})
            self.assertEqual((state.specials[1], state.specials[3], state.specials[6]), (3, 77, 88))


class Negation(unittest.TestCase):
    def test_neg(self):
        for number in (0, 1, 200, 255):
            for z in SAMPLES:
                state = after([(0x34, 3, number, 2)], {2: z, 1: 50})
                value = number - signed(z)
                self.assertEqual((state.registers[3], state.specials[21]), (value & MASK, overflowed(value)))

    def test_negu(self):
        for number in (0, 1, 200, 255):
            for z in SAMPLES:
                state = after([(0x36, 3, number, 2)], {2: z})
                self.assertEqual((state.registers[3], state.specials[21]), (number - z & MASK, 0))

    def test_the_odd_ones(self):
        for op in (0x35, 0x37):
            self.assertEqual(after([(op, 3, 9, 200)], {9: 1, 200: 1}).registers[3], 9 - 200 & MASK)


class OddOps(unittest.TestCase):
    def test_z_is_the_byte_itself(self):
        for op in range(0x18, 0x40, 2):
            if op not in (0x34, 0x36):
                for z in (0, 1, 63, 64, 128, 255):
                    for y in (5, MASK - 4):
                        by_register = worked(op, y, z, {1: 3})
                        state = after([(op + 1, 3, 1, z)], {1: y, 2: z}, {1: 3})
                        self.assertEqual(state.registers, by_register.registers)
                        self.assertEqual(state.specials, by_register.specials)


class Marks(unittest.TestCase):
    def test_they_are_put_on_what_is_there(self):
        state = worked(0x20, GREATEST, 1, {21: 0x30011})
        self.assertEqual(state.specials[21], 0x30051)
        state = worked(0x1C, 1, 0, {21: 0x20040})
        self.assertEqual(state.specials[21], 0x200C0)
        state = worked(0x20, 1, 1, {21: 0x40})
        self.assertEqual(state.specials[21], 0x40)
        state = worked(0x20, GREATEST, 1, {21: 0x40})
        self.assertEqual(state.specials[21], 0x40)
        state = worked(0x1C, 1, 0, {21: 0x80})
        self.assertEqual(state.specials[21], 0x80)

    def test_the_result_may_be_an_operand(self):
        self.assertEqual(after([(0x20, 1, 1, 2)], {1: 5, 2: 6}).registers, {0: 0, 1: 11, 2: 6, 3: 0})
        self.assertEqual(after([(0x24, 2, 1, 2)], {1: 5, 2: 6}).registers[2], MASK)


if __name__ == "__main__":
    unittest.main()

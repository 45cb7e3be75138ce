"""Memory loaded and stored (point 11; floating numbers of 32 bits are in test_short_floats)."""

import unittest

from helper import MASK, SIZE, after

DATA = 0x4000
BYTES = [0x81, 0x02, 0x7F, 0xFF, 0xFE, 0x80, 0x00, 0x13]


def part(offset, size):
    start = offset - offset % size
    return BYTES[start:start + size]


class Loads(unittest.TestCase):
    def test_loads(self):
        for k, size in enumerate((1, 2, 4, 8)):
            for offset in range(8):
                for signed in (True, False):
                    op = 0x80 + 4 * k + (0 if signed else 2)
                    expected = int.from_bytes(bytes(part(offset, size)), "big", signed=signed) & MASK
                    state = after([(op, 3, 1, 2)], {1: DATA, 2: offset}, memory=[(DATA, BYTES)])
                    self.assertEqual(state.registers[3], expected)
                    state = after([(op + 1, 3, 1, offset)], {1: DATA}, memory=[(DATA, BYTES)])
                    self.assertEqual(state.registers[3], expected)
                    self.assertEqual(state.specials[21], 0)

    def test_high_half(self):
        for offset in range(8):
            expected = int.from_bytes(bytes(part(offset, 4)), "big") << 32
            for program, registers in (((0x92, 3, 1, 2), {1: DATA, 2: offset}), ((0x93, 3, 1, offset), {1: DATA})):
                self.assertEqual(after([program], registers, memory=[(DATA, BYTES)]).registers[3], expected)

    def test_uncached(self):
        whole = int.from_bytes(bytes(BYTES), "big")
        self.assertEqual(after([(0x96, 3, 1, 2)], {1: DATA, 2: 7}, memory=[(DATA, BYTES)]).registers[3], whole)
        self.assertEqual(after([(0x97, 3, 1, 7)], {1: DATA}, memory=[(DATA, BYTES)]).registers[3], whole)

    def test_the_end_of_memory(self):
        for op, size in ((0x82, 1), (0x86, 2), (0x8A, 4), (0x8E, 8)):
            memory = [(SIZE - 8, BYTES)]
            expected = int.from_bytes(bytes(BYTES[8 - size:]), "big")
            self.assertEqual(after([(op, 3, 1, 2)], {1: SIZE - 1}, memory=memory).registers[3], expected)


class Stores(unittest.TestCase):
    def test_stores(self):
        for k, size in enumerate((1, 2, 4, 8)):
            half = 1 << (8 * size - 1)
            for value in (0, 1, half - 1, half, 2 * half - 1, -1, -half, -half - 1, 0x0123456789ABCDEF):
                word = value & MASK
                seen = word - (1 << 64) if word >> 63 else word
                for signed in (True, False):
                    op = 0xA0 + 4 * k + (0 if signed else 2)
                    for offset in (0, 3, 7):
                        start = offset - offset % size
                        expected = BYTES[:start] + list(word.to_bytes(8, "big")[8 - size:]) + BYTES[start + size:]
                        state = after(
                            [(op, 3, 1, 2)], {1: DATA, 2: offset, 3: word}, memory=[(DATA - 8, BYTES * 3)],
                            peek=(DATA - 8, 24),
                        )
                        self.assertEqual(state.memory, BYTES + expected + BYTES)
                        past = signed and not -half <= seen < half
                        self.assertEqual(state.specials[21], 64 if past else 0)
                        self.assertEqual(state.registers[3], word)

    def test_odd_ops(self):
        for op in range(0xA1, 0xB8, 2):
            even = after([(op - 1, 3, 1, 2)], {1: DATA, 2: 5, 3: 0x0123456789ABCDEF}, peek=(DATA, 16))
            odd = after([(op, 3, 1, 5)], {1: DATA, 2: 5, 3: 0x0123456789ABCDEF}, peek=(DATA, 16))
            self.assertEqual((even.answer, odd.answer), (0, 0))
            self.assertEqual(odd.memory, even.memory)
            self.assertEqual(odd.specials, even.specials)

    def test_high_half(self):
        state = after([(0xB2, 3, 1, 2)], {1: DATA, 2: 6, 3: 0x89ABCDEF01234567}, peek=(DATA, 8))
        self.assertEqual(state.memory, [0, 0, 0, 0, 0x89, 0xAB, 0xCD, 0xEF])
        self.assertEqual(state.specials[21], 0)

    def test_constant(self):
        state = after([(0xB4, 200, 1, 2)], {1: DATA, 2: 6}, memory=[(DATA, BYTES)], peek=(DATA, 8))
        self.assertEqual(state.memory, [0] * 7 + [200])

    def test_uncached(self):
        state = after([(0xB6, 3, 1, 2)], {1: DATA, 2: 6, 3: 0x89ABCDEF01234567}, peek=(DATA, 8))
        self.assertEqual(state.memory, list((0x89ABCDEF01234567).to_bytes(8, "big")))


class CompareAndSwap(unittest.TestCase):
    WHOLE = int.from_bytes(bytes(BYTES), "big")

    def test_equal(self):
        for program, registers in (((0x94, 3, 1, 2), {1: DATA, 2: 6}), ((0x95, 3, 1, 6), {1: DATA})):
            state = after(
                [program], registers | {3: 0x1122}, {23: self.WHOLE}, memory=[(DATA, BYTES)], peek=(DATA, 8),
            )
            self.assertEqual(state.memory, [0] * 6 + [0x11, 0x22])
            self.assertEqual((state.registers[3], state.specials[23]), (1, self.WHOLE))

    def test_not_equal(self):
        for program, registers in (((0x94, 3, 1, 2), {1: DATA, 2: 6}), ((0x95, 3, 1, 6), {1: DATA})):
            state = after(
                [program], registers | {3: 0x1122}, {23: self.WHOLE + 1}, memory=[(DATA, BYTES)], peek=(DATA, 8),
            )
            self.assertEqual(state.memory, BYTES)
            self.assertEqual((state.registers[3], state.specials[23]), (0, self.WHOLE))


if __name__ == "__main__":
    unittest.main()

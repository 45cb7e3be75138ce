"""Bits and parts of words (point 8)."""

import unittest

from helper import MASK, after, worked

SAMPLES = (
    0, 1, 0xFF, 0x8000000000000000, 0x0123456789ABCDEF, 0xFEDCBA9876543210, 0x8040201008040201,
    0x00FF00FF00FF00FF, 0x7F80FFFF00010002, MASK - 1, MASK,
)


def in_parts(y, z, bits):
    count = 64 // bits
    mask = (1 << bits) - 1
    parts = [max((y >> bits * k & mask) - (z >> bits * k & mask), 0) for k in range(count)]
    return sum(part << bits * k for k, part in enumerate(parts))


def matrix_product(y, z, exclusive):
    """By the document's words: byte i, y's bytes k, z's bits k, each from the high end."""
    ys = y.to_bytes(8, "big")
    zs = z.to_bytes(8, "big")
    result = []
    for i in range(8):
        total = 0
        for k in range(8):
            if zs[i] & (0x80 >> k):
                total = total ^ ys[k] if exclusive else total | ys[k]
        result.append(total)
    return int.from_bytes(bytes(result), "big")


WORKS = {
    0xC0: lambda y, z: y | z,
    0xC2: lambda y, z: y | ~z,
    0xC4: lambda y, z: ~(y | z),
    0xC6: lambda y, z: y ^ z,
    0xC8: lambda y, z: y & z,
    0xCA: lambda y, z: y & ~z,
    0xCC: lambda y, z: ~(y & z),
    0xCE: lambda y, z: ~(y ^ z),
    0xD0: lambda y, z: in_parts(y, z, 8),
    0xD2: lambda y, z: in_parts(y, z, 16),
    0xD4: lambda y, z: in_parts(y, z, 32),
    0xD6: lambda y, z: in_parts(y, z, 64),
    0xDA: lambda y, z: bin(y & ~z & MASK).count("1"),
    0xDC: lambda y, z: matrix_product(y, z, False),
    0xDE: lambda y, z: matrix_product(y, z, True),
}


class Bits(unittest.TestCase):
    def test_all(self):
        for op, reckon in WORKS.items():
            for y in SAMPLES:
                for z in SAMPLES:
                    state = worked(op, y, z)
                    self.assertEqual(state.answer, 0)
                    self.assertEqual(state.registers[3], reckon(y, z) & MASK, (hex(op), hex(y), hex(z)))
                    self.assertEqual(state.specials[21], 0)

    def test_odd_ops(self):
        for op, reckon in WORKS.items():
            for y in SAMPLES:
                for z in (0, 1, 0x80, 0xC3, 255):
                    state = after([(op + 1, 3, 1, z)], {1: y, z: 7} if z > 3 else {1: y})
                    self.assertEqual(state.registers[3], reckon(y, z) & MASK, (hex(op), hex(y), hex(z)))

    def test_mux(self):
        for chosen in SAMPLES:
            for y in SAMPLES:
                for z in SAMPLES:
                    state = worked(0xD8, y, z, {5: chosen})
                    self.assertEqual(state.registers[3], y & chosen | z & ~chosen & MASK)
                    self.assertEqual(state.specials[5], chosen)
        state = after([(0xD9, 3, 1, 0xA5)], {1: MASK}, {5: 0xF0})
        self.assertEqual(state.registers[3], 0xF5)

    def test_known_products(self):
        word = 0x0123456789ABCDEF
        self.assertEqual(worked(0xDC, word, 0x8040201008040201).registers[3], word)
        self.assertEqual(worked(0xDC, word, 0x0102040810204080).registers[3], 0xEFCDAB8967452301)
        self.assertEqual(worked(0xDE, 0x0101FFFF00000000, 0xC0B0000000000000).registers[3], 0x0001000000000000)


if __name__ == "__main__":
    unittest.main()

"""Floating numbers of 32 bits in memory: LDSF and STSF (points 9 and 11)."""

import math
import struct
import unittest
from fractions import Fraction

from helper import after

DATA = 0x4000
SIGN = 1 << 63
GREATEST = 0x7F7FFFFF


def short_bytes(word):
    return list(word.to_bytes(4, "big"))


def short_value(word):
    return Fraction(struct.unpack(">f", struct.pack(">I", word))[0])


def as_word(number):
    return struct.unpack(">Q", struct.pack(">d", number))[0]


def as_float(word):
    return struct.unpack(">d", struct.pack(">Q", word))[0]


def loaded(word):
    state = after([(0x90, 3, 1, 2)], {1: DATA}, memory=[(DATA, short_bytes(word))])
    odd = after([(0x91, 3, 1, 3)], {1: DATA}, memory=[(DATA, short_bytes(word))])
    assert (state.answer, odd.answer, state.specials[21]) == (0, 0, 0)
    assert state.registers[3] == odd.registers[3]
    return state.registers[3]


def stored(word, mode=0):
    state = after([(0xB0, 3, 1, 2)], {1: DATA, 2: 6, 3: word}, {21: mode << 16}, peek=(DATA, 8))
    assert state.answer == 0 and state.memory[:4] == [0, 0, 0, 0]
    return (int.from_bytes(bytes(state.memory[4:]), "big"), state.specials[21] - (mode << 16))


class Loads(unittest.TestCase):
    def test_numbers(self):
        for word in (0, 1, 2, 3, 0x7FFFFF, 0x800000, 0x800001, 0x3F800000, 0x3DCCCCCD, 0x40490FDB, GREATEST):
            for sign in (0, 1):
                number = struct.unpack(">f", struct.pack(">I", word | sign << 31))[0]
                self.assertEqual(loaded(word | sign << 31), as_word(number))

    def test_infinities_and_no_numbers(self):
        self.assertEqual(loaded(0x7F800000), 0x7FF0000000000000)
        self.assertEqual(loaded(0xFF800000), 0xFFF0000000000000)
        self.assertEqual(loaded(0x7FC00000), 0x7FF8000000000000)
        self.assertEqual(loaded(0x7F800001), 0x7FF0000020000000)
        self.assertEqual(loaded(0xFFFFFFFF), 0xFFFFFFFFE0000000)


def neighbours(value):
    """The numbers of 32 bits next to a value above 0: the greatest not above it, the least not below it."""
    low, high = 0, GREATEST
    if value > short_value(GREATEST):
        return (GREATEST, GREATEST + 1)
    while low < high:
        middle = (low + high + 1) // 2
        if short_value(middle) <= value:
            low = middle
        else:
            high = middle - 1
    return (low, low if short_value(low) == value else low + 1)


def nearest(value, below, above):
    # Past the greatest, what counts is the next number that there would be.
    upper = short_value(above) if above <= GREATEST else Fraction(2) ** 128
    middle = (short_value(below) + upper) / 2
    if value == middle:
        return below if below % 2 == 0 else above
    return below if value < middle else above


def expected(word, mode):
    value = abs(Fraction(as_float(word)))
    negative = word >= SIGN
    below, above = neighbours(value)
    if mode == 0:
        result = nearest(value, below, above)
    else:
        result = above if mode == (3 if negative else 2) else below
    flags = 0
    if value > short_value(GREATEST):
        flags = 9 if result > GREATEST or value >= Fraction(2) ** 128 else 1
    elif short_value(result) != value:
        flags = 5 if value < Fraction(1, 2 ** 126) else 1
    return (result | (1 << 31 if negative else 0), flags)


class Stores(unittest.TestCase):
    NUMBERS = (
        0.0, 1.0, 1.5, 0.1, 1 / 3, math.pi, 2.0 ** -126, 2.0 ** -126 * (1 - 2.0 ** -24), 2.0 ** -126 * (1 - 2.0 ** -25),
        2.0 ** -149, 2.0 ** -150, 2.0 ** -150 * 1.5, 2.0 ** -151, 3 * 2.0 ** -149, 2.0 ** -149 * 1.5, 2.0 ** -149 * 2.5,
        1e-40, 1e-300, 5e-324, 1 + 2.0 ** -24, 1 + 2.0 ** -23 * 1.5, 1 + 2.0 ** -24 + 2.0 ** -50, 2.0 ** 128,
        2.0 ** 128 - 2.0 ** 104, 2.0 ** 128 - 2.0 ** 103, 2.0 ** 128 - 2.0 ** 103 - 2.0 ** 76, 2.0 ** 128 - 2.0 ** 102,
        2.0 ** 127, 1e300, math.nextafter(math.inf, 0),
    )

    def test_numbers(self):
        for number in self.NUMBERS:
            for sign in (0, SIGN):
                for mode in range(4):
                    word = as_word(number) | sign
                    self.assertEqual(stored(word, mode), expected(word, mode), (number, sign, mode))

    def test_infinities(self):
        for mode in range(4):
            self.assertEqual(stored(0x7FF0000000000000, mode), (0x7F800000, 0))
            self.assertEqual(stored(0xFFF0000000000000, mode), (0xFF800000, 0))

    def test_no_numbers(self):
        self.assertEqual(stored(0x7FF8000000000000), (0x7FC00000, 0))
        self.assertEqual(stored(0xFFFFFFFFFFFFFFFF), (0xFFFFFFFF, 0))
        self.assertEqual(stored(0x7FF0000000000001), (0x7FC00000, 16))
        self.assertEqual(stored(0xFFF1234567890000), (0xFFC91A2B, 16))

    def test_odd_op(self):
        state = after([(0xB1, 3, 1, 6)], {1: DATA, 3: as_word(1.5)}, peek=(DATA, 8))
        self.assertEqual(state.memory, [0] * 4 + short_bytes(0x3FC00000))


if __name__ == "__main__":
    unittest.main()

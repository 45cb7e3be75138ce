"""Floating numbers (point 9), against exact fractions and Python's own floating numbers."""

import math
import struct
import unittest
from fractions import Fraction

from helper import MASK, after, many_worked, worked

INFINITY = 0x7FF0000000000000
NO_NUMBER = 0x7FF8000000000000
SIGN = 1 << 63
NEAREST, TOWARDS_0, UP, DOWN = range(4)
MODES = (NEAREST, TOWARDS_0, UP, DOWN)

POSITIVE = (
    0, 1, 2, 3, 0x000FFFFFFFFFFFFE, 0x000FFFFFFFFFFFFF, 0x0010000000000000, 0x0010000000000001,
    0x001FFFFFFFFFFFFF, 0x0020000000000000, 0x1E50000000000000, 0x1FF8000000000001, 0x3CA0000000000000,
    0x3CB0000000000000, 0x3FB999999999999A, 0x3FE0000000000000, 0x3FEFFFFFFFFFFFFF, 0x3FF0000000000000,
    0x3FF0000000000001, 0x3FF8000000000000, 0x4000000000000000, 0x4004000000000000, 0x4008000000000000,
    0x400921FB54442D18, 0x4014000000000000, 0x4330000000000001, 0x433FFFFFFFFFFFFF, 0x4340000000000000,
    0x43DFFFFFFFFFFFFF, 0x43E0000000000000, 0x43F0000000000000, 0x5FEFFFFFFFFFFFFF, 0x7FDFFFFFFFFFFFFF,
    0x7FE0000000000000, 0x7FEFFFFFFFFFFFFE, 0x7FEFFFFFFFFFFFFF,
)
FINITE = POSITIVE + tuple(word | SIGN for word in POSITIVE)
INFINITE = (INFINITY, INFINITY | SIGN)
QUIET = (NO_NUMBER, 0x7FFFFFFFFFFFFFFF, 0xFFF8000000000123)
SIGNALLING = (0x7FF0000000000001, 0xFFF7FFFFFFFFFFFF)


def mixed_words(count, seed):
    """Words that look thrown together, the same each time."""
    words = []
    for step in range(count):
        seed = (seed * 6364136223846793005 + 1442695040888963407) & MASK
        words.append(seed ^ seed >> 29)
    return words


def is_finite(word):
    return word & ~SIGN & MASK < INFINITY


def as_float(word):
    return struct.unpack(">d", struct.pack(">Q", word))[0]


def as_word(number):
    return struct.unpack(">Q", struct.pack(">d", number))[0]


def exact(word):
    return Fraction(as_float(word))


def between(value):
    """The floating numbers next to a value: the greatest not above it, the least not below it, the nearest."""
    try:
        near = float(value)
    except OverflowError:
        near = math.inf if value > 0 else -math.inf
    if math.isinf(near):
        greatest = math.nextafter(math.inf, 0)
        pair = (greatest, math.inf) if near > 0 else (-math.inf, -greatest)
        return (*pair, near)
    if Fraction(near) == value:
        return (near, near, near)
    if Fraction(near) < value:
        return (near, math.nextafter(near, math.inf), near)
    return (math.nextafter(near, -math.inf), near, near)


def chosen(value, mode):
    below, above, near = between(value)
    if mode == NEAREST:
        return near
    if mode == TOWARDS_0:
        return below if value > 0 else above
    return above if mode == UP else below


def rounded(value, mode):
    """The word and the flags of a value that is not 0."""
    greatest = Fraction(math.nextafter(math.inf, 0))
    # Scaled down far enough there is no greatest number in the way.
    free = Fraction(chosen(value / 2 ** 1200, mode)) * 2 ** 1200 if abs(value) > 2 ** 1000 else 0
    word = as_word(chosen(value, mode)) & ~SIGN | (SIGN if value < 0 else 0)
    if abs(free) > greatest:
        return (word, 9)
    if is_finite(word) and exact(word) == value:
        return (word, 0)
    return (word, 5 if abs(value) < Fraction(1, 2 ** 1022) else 1)


def sum_of(y, z, mode):
    total = exact(y) + exact(z)
    if total != 0:
        return rounded(total, mode)
    if y & SIGN == z & SIGN:
        return (y, 0)
    return (SIGN if mode == DOWN else 0, 0)


def difference_of(y, z, mode):
    return sum_of(y, z ^ SIGN, mode)


def product_of(y, z, mode):
    value = exact(y) * exact(z)
    return rounded(value, mode) if value else ((y ^ z) & SIGN, 0)


def quotient_of(y, z, mode):
    sign = (y ^ z) & SIGN
    if exact(z) == 0:
        return (NO_NUMBER, 16) if exact(y) == 0 else (sign | INFINITY, 2)
    value = exact(y) / exact(z)
    return rounded(value, mode) if value else (sign, 0)


def rest_of(y, z, mode):
    if exact(z) == 0:
        return (NO_NUMBER, 16)
    value = exact(y) - exact(z) * round(exact(y) / exact(z))
    return rounded(value, mode) if value else (y & SIGN, 0)


PAIRS = {0x04: sum_of, 0x06: difference_of, 0x10: product_of, 0x14: quotient_of, 0x16: rest_of}


class Pairs(unittest.TestCase):
    def check(self, op, pairs):
        for mode in MODES:
            found = many_worked((op, 3, 1, 2), [(y, z, mode << 16) for y, z in pairs])
            for (y, z), (word, flags) in zip(pairs, found):
                expected = PAIRS[op](y, z, mode)
                self.assertEqual((word, flags - (mode << 16)), expected, (hex(op), hex(y), hex(z), mode))

    def test_finite_numbers(self):
        for op in (0x04, 0x06, 0x10, 0x14):
            self.check(op, [(y, z) for y in FINITE for z in FINITE])

    def test_rests(self):
        self.check(0x16, [(y, z) for y in FINITE[::2] for z in FINITE[1::3]])
        small = [as_word(number / 2) for number in range(-9, 10)]
        self.check(0x16, [(y, z) for y in small for z in small])

    def test_mixed_words(self):
        words = [word for word in mixed_words(800, 7) if is_finite(word)]
        # Near one another, so that sums and quotients round.
        close = [word & ~(0x7FF << 52) | (1000 + word % 60) << 52 for word in words]
        for op in PAIRS:
            self.check(op, list(zip(words[0::2], words[1::2]))[:120] + list(zip(close[0::2], close[1::2])))

    def test_products_at_the_edges(self):
        halves = [0x3FE0000000000000, 0x3FDFFFFFFFFFFFFF, 0x3FE0000000000001, 0x3FF0000000000001, 0x3FEFFFFFFFFFFFFF]
        edges = [0x0010000000000000, 0x0010000000000001, 0x000FFFFFFFFFFFFF, 1, 3, 0x7FEFFFFFFFFFFFFF]
        self.check(0x10, [(y, z | sign) for y in edges for z in halves for sign in (0, SIGN)])
        self.check(0x14, [(y, z | sign) for y in edges for z in halves for sign in (0, SIGN)])

    def test_infinities(self):
        plus, minus = INFINITE
        one, zero = 0x3FF0000000000000, 0
        for op, y, z, expected in (
            (0x04, plus, plus, (plus, 0)), (0x04, minus, minus, (minus, 0)), (0x04, plus, minus, (NO_NUMBER, 16)),
            (0x04, minus, plus, (NO_NUMBER, 16)), (0x04, plus, one, (plus, 0)), (0x04, one, minus, (minus, 0)),
            (0x06, plus, plus, (NO_NUMBER, 16)), (0x06, plus, minus, (plus, 0)), (0x06, one, plus, (minus, 0)),
            (0x06, minus, one, (minus, 0)),
            (0x10, plus, minus, (minus, 0)), (0x10, minus, one | SIGN, (plus, 0)), (0x10, one, plus, (plus, 0)),
            (0x10, plus, zero, (NO_NUMBER, 16)), (0x10, SIGN, minus, (NO_NUMBER, 16)),
            (0x14, plus, plus, (NO_NUMBER, 16)), (0x14, plus, minus, (NO_NUMBER, 16)), (0x14, plus, one, (plus, 0)),
            (0x14, plus, SIGN, (minus, 0)), (0x14, one, minus, (SIGN, 0)), (0x14, zero, plus, (0, 0)),
            (0x14, one, zero, (plus, 2)), (0x14, one, SIGN, (minus, 2)), (0x14, zero, SIGN, (NO_NUMBER, 16)),
            (0x16, plus, one, (NO_NUMBER, 16)), (0x16, one, zero, (NO_NUMBER, 16)), (0x16, one, plus, (one, 0)),
            (0x16, SIGN, minus, (SIGN, 0)), (0x16, plus, plus, (NO_NUMBER, 16)),
            (0x16, 0x7FEFFFFFFFFFFFFF, plus, (0x7FEFFFFFFFFFFFFF, 0)), (0x16, 1 | SIGN, minus, (1 | SIGN, 0)),
        ):
            state = worked(op, y, z)
            self.assertEqual((state.registers[3], state.specials[21]), expected, (hex(op), hex(y), hex(z)))

    def test_no_numbers(self):
        for op in PAIRS:
            for odd in QUIET + SIGNALLING:
                for other in (0, 0x3FF0000000000000, INFINITY, SIGN, *QUIET):
                    flag = 16 if odd in SIGNALLING else 0
                    for y, z in ((odd, other), (other, odd)):
                        state = worked(op, y, z)
                        self.assertEqual((state.registers[3], state.specials[21]), (NO_NUMBER, flag))

    def test_flags_are_put_on_what_is_there(self):
        state = worked(0x14, 0x3FF0000000000000, 0x4008000000000000, {21: 0x10082})
        self.assertEqual(state.specials[21], 0x10083)


class Comparisons(unittest.TestCase):
    def test_numbers(self):
        words = FINITE + INFINITE
        pairs = [(y, z) for y in words for z in words]
        for op, reckon in (
            (0x01, lambda y, z: (y > z) - (y < z)), (0x02, lambda y, z: 0), (0x03, lambda y, z: int(y == z)),
        ):
            found = many_worked((op, 3, 1, 2), [(y, z, 0) for y, z in pairs])
            for (y, z), answer in zip(pairs, found):
                self.assertEqual(answer, (reckon(as_float(y), as_float(z)) & MASK, 0))

    def test_no_numbers(self):
        for odd in QUIET + SIGNALLING:
            for other in (0, 0x3FF0000000000000, INFINITY, odd):
                for y, z in ((odd, other), (other, odd)):
                    for op, expected in ((0x01, (0, 16)), (0x02, (1, 0)), (0x03, (0, 0))):
                        state = worked(op, y, z)
                        self.assertEqual((state.registers[3], state.specials[21]), expected)


def whole(value, mode):
    if mode == NEAREST:
        return round(value)
    if mode == UP:
        return math.ceil(value)
    if mode == DOWN:
        return math.floor(value)
    return math.trunc(value)


# Y, rA's rounding, and the one that counts.
ROUNDINGS = tuple((0, mode, mode) for mode in MODES) + tuple(
    (y, mode, y % 4) for y in (1, 2, 3, 4) for mode in (NEAREST, UP)
)


class Rounded(unittest.TestCase):
    def check(self, op, words, reckon):
        for y, in_ra, mode in ROUNDINGS:
            found = many_worked((op, 3, y, 2), [(0, word, in_ra << 16) for word in words])
            for word, (result, flags) in zip(words, found):
                expected = reckon(word, mode)
                self.assertEqual((result, flags - (in_ra << 16)), expected, (hex(op), hex(word), y, in_ra))


class Alone(Rounded):
    """Of $Z alone, with the rounding that Y tells."""

    WORDS = FINITE + tuple(as_word(number / 4) for number in range(-30, 31)) + tuple(
        as_word(sign * number) for sign in (1, -1) for number in (
            2.0 ** 52 - 0.5, 2.0 ** 52 + 1, 2.0 ** 62, 2.0 ** 63 - 1024, 2.0 ** 63 + 2048, 2.0 ** 64 - 2048,
            2.0 ** 64, 2.0 ** 64 + 4096, 2.0 ** 70 + 2.0 ** 18, 1e300, 1e-300,
        )
    )

    # Their roots lie less than 2^-100 above a number, and above the middle of two.
    JUST_ABOVE = (
        0x40073C5B0360FBFF, 0x3FF73419A35AB8B3, 0x3FFADD0BB2567C3C, 0x3FFD407BB3641DA5, 0x4005B95344972FE2,
    )

    def test_fix(self):
        def reckon(word, mode):
            value = whole(exact(word), mode)
            past = 0 if -SIGN <= value < SIGN else 32
            return (value & MASK, past + (value != exact(word)))
        self.check(0x05, self.WORDS, reckon)

    def test_fixu(self):
        def reckon(word, mode):
            value = whole(exact(word), mode)
            return (value & MASK, int(value != exact(word)))
        self.check(0x07, self.WORDS, reckon)

    def test_fix_of_what_is_not_finite(self):
        for op in (0x05, 0x07):
            self.check(op, INFINITE + QUIET + SIGNALLING, lambda word, mode: (word, 16))

    def test_fint(self):
        def reckon(word, mode):
            value = whole(exact(word), mode)
            return (as_word(float(value)) & ~SIGN | word & SIGN, int(value != exact(word)))
        self.check(0x17, self.WORDS, reckon)
        self.check(0x17, INFINITE, lambda word, mode: (word, 0))

    def test_fsqrt(self):
        def reckon(word, mode):
            value = exact(word)
            if value == 0:
                return (word, 0)
            if value < 0:
                return (NO_NUMBER, 16)
            near = math.sqrt(as_float(word))
            if Fraction(near) ** 2 == value:
                return (as_word(near), 0)
            below = near if Fraction(near) ** 2 < value else math.nextafter(near, 0)
            above = math.nextafter(below, math.inf)
            return (as_word({NEAREST: near, TOWARDS_0: below, UP: above, DOWN: below}[mode]), 1)
        words = self.WORDS + tuple(word & ~SIGN for word in mixed_words(300, 3) if is_finite(word))
        self.check(0x15, words + self.JUST_ABOVE, reckon)
        self.check(0x15, (INFINITY,), lambda word, mode: (word, 0))
        self.check(0x15, (INFINITY | SIGN,), lambda word, mode: (NO_NUMBER, 16))

    def test_no_numbers(self):
        for op in (0x15, 0x17):
            self.check(op, QUIET, lambda word, mode: (NO_NUMBER, 0))
            self.check(op, SIGNALLING, lambda word, mode: (NO_NUMBER, 16))

    def test_z_is_the_register(self):
        for op in (0x05, 0x07, 0x15, 0x17):
            state = after([(op, 3, 0, 2)], {1: 0x4022000000000000, 2: 0x4010000000000000})
            expected = {0x05: 4, 0x07: 4, 0x15: 0x4000000000000000, 0x17: 0x4010000000000000}[op]
            self.assertEqual(state.registers[3], expected)


def short_rounded(value, mode):
    """A whole number rounded to 24 bits."""
    count = max(abs(value).bit_length() - 24, 0)
    result = whole(Fraction(value, 1 << count), mode) << count
    return (as_word(float(result)), int(result != value))


class Floats(Rounded):
    """Whole numbers made floating."""

    WORDS = (
        0, 1, 2, 255, 256, (1 << 24) - 1, 1 << 24, (1 << 24) + 1, (1 << 24) + 3, (1 << 25) + 2, (1 << 25) + 6,
        (1 << 53) - 1, 1 << 53, (1 << 53) + 1, (1 << 53) + 3, (1 << 54) + 2, (1 << 54) + 6, (1 << 63) - 1, 1 << 63,
        (1 << 63) + 1, MASK - (1 << 53), MASK - (1 << 24), MASK - 1, MASK, (1 << 64) - (1 << 10), (1 << 64) - (1 << 39),
    ) + tuple(mixed_words(100, 5))

    def test_flot(self):
        def reckon(word, mode):
            value = word - (1 << 64) if word & SIGN else word
            return rounded(Fraction(value), mode) if value else (0, 0)
        self.check(0x08, self.WORDS, reckon)

    def test_flotu(self):
        self.check(0x0A, self.WORDS, lambda word, mode: rounded(Fraction(word), mode) if word else (0, 0))

    def test_sflot(self):
        def reckon(word, mode):
            return short_rounded(word - (1 << 64) if word & SIGN else word, mode)
        self.check(0x0C, self.WORDS, reckon)

    def test_sflotu(self):
        self.check(0x0E, self.WORDS, short_rounded)

    def test_odd_ops(self):
        for op in (0x09, 0x0B, 0x0D, 0x0F):
            for z in (0, 1, 200, 255):
                state = after([(op, 3, 0, z)], {200: 5})
                self.assertEqual((state.registers[3], state.specials[21]), (as_word(float(z)), 0))


if __name__ == "__main__":
    unittest.main()

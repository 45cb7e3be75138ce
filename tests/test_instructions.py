"""Each instruction of points 7 to 15 once more, word by word, by set, write, go, run, get, special and place.

What an instruction is to change is told; all else that can be asked must be as before.
"""

import unittest

from helper import MASK, PROGRAM, SIZE, after, octa

DATA = 0x4000
BESIDE = 0x1122334455667788
LEAST = 1 << 63
GREATEST = LEAST - 1

NUMBERS = {
    "rB": 0, "rD": 1, "rE": 2, "rH": 3, "rJ": 4, "rM": 5, "rR": 6, "rBB": 7, "rG": 19, "rL": 20, "rA": 21, "rF": 22,
    "rP": 23, "rW": 24, "rX": 25, "rY": 26, "rZ": 27, "rWW": 28, "rXX": 29, "rYY": 30, "rZZ": 31,
}
SEEN = (0, 1, 2, 3, 4, 5, 9, 31, 32, 200, 254, 255)
PLAIN = {0: 70, 1: 71, 2: 72, 3: 73, 4: 74, 255: 325}
SPECIAL = {
    name: 0x100 + number for name, number in NUMBERS.items() if name not in ("rG", "rL", "rA")
} | {"rG": 255, "rA": 0}

NEAREST, TOWARDS_0, UP, DOWN = (mode << 16 for mode in range(4))
MODES = (NEAREST, TOWARDS_0, UP, DOWN)


class Case(unittest.TestCase):
    def holds(self, instruction, given, changed, answer=0):
        """Keys: a number for a register, a name for a special one, M for the word at DATA, place."""
        plain = PLAIN | {key: word & MASK for key, word in given.items() if isinstance(key, int)}
        named = SPECIAL | {key: word & MASK for key, word in given.items() if key in NUMBERS}
        named.pop("rL", None)
        before = given.get("M", 0) & MASK
        state = after(
            [instruction], plain, {NUMBERS[name]: word for name, word in named.items()},
            memory=[(DATA - 8, octa(BESIDE) + octa(before) + octa(BESIDE))], see=SEEN, peek=(DATA - 8, 24),
        )
        told = {key: word & MASK for key, word in changed.items()}
        told.setdefault("place", PROGRAM + 4 if answer == 0 else PROGRAM)
        rl = 1 + max(number for number in plain if number < named["rG"])
        named = {"rL": rl} | named | {key: word for key, word in told.items() if key in NUMBERS}
        specials = [0] * 32
        for name, word in named.items():
            specials[NUMBERS[name]] = word
        about = (tuple(hex(part) for part in instruction), given)
        self.assertEqual(state.answer, answer, about)
        self.assertEqual(state.registers, {number: told.get(number, plain.get(number, 0)) for number in SEEN}, about)
        self.assertEqual(state.specials, specials, about)
        self.assertEqual(state.memory, octa(BESIDE) + octa(told.get("M", before)) + octa(BESIDE), about)
        self.assertEqual(state.place, told["place"], about)

    def pair(self, op, y, z, x, given=None, **changed):
        """$3 = $1 op $2; and by Z itself, where z is a byte."""
        self.holds((op, 3, 1, 2), {1: y, 2: z} | (given or {}), {3: x} | changed)
        if 0 <= z <= 255:
            self.holds((op + 1, 3, 1, z), {1: y, z: 99 if z != 1 else y} | (given or {}), {3: x} | changed)

    def fault(self, number, instruction, given=None):
        self.holds(instruction, given or {}, {}, -number)


class Whole(Case):
    def test_mul(self):
        self.pair(0x18, 7, 6, 42)
        self.pair(0x18, -7, 6, -42)
        self.pair(0x18, -7, -6, 42)
        self.pair(0x18, 1 << 62, 2, LEAST, rA=64)
        self.pair(0x18, -(1 << 62), 2, LEAST)
        self.pair(0x18, LEAST, -1, LEAST, rA=64)
        self.pair(0x18, GREATEST, GREATEST, 1, rA=64)

    def test_mulu(self):
        self.pair(0x1A, 7, 6, 42, rH=0)
        self.pair(0x1A, MASK, 255, MASK - 254, rH=254)
        self.pair(0x1A, MASK, MASK, 1, rH=MASK - 1)

    def test_div(self):
        self.pair(0x1C, 7, 2, 3, rR=1)
        self.pair(0x1C, -7, 2, -4, rR=1)
        self.pair(0x1C, 7, -2, -4, rR=-1)
        self.pair(0x1C, -7, -2, 3, rR=-1)
        self.pair(0x1C, LEAST, -1, LEAST, rR=0, rA=64)
        self.pair(0x1C, LEAST, 1, LEAST, rR=0)
        self.pair(0x1C, -7, 0, 0, rR=-7, rA=128)

    def test_divu(self):
        self.pair(0x1E, 7, 2, 3, {"rD": 0}, rR=1)
        self.pair(0x1E, MASK, 2, GREATEST, {"rD": 0}, rR=1)
        self.pair(0x1E, 5, 16, (3 << 60), {"rD": 3}, rR=5)
        self.pair(0x1E, MASK, MASK, MASK, {"rD": MASK - 1}, rR=MASK - 1)
        self.pair(0x1E, 5, 3, 3, {"rD": 3}, rR=5)
        self.pair(0x1E, 5, 0, 0, {"rD": 0}, rR=5)
        self.pair(0x1E, 5, MASK, MASK, {"rD": MASK}, rR=5)

    def test_add_and_sub(self):
        self.pair(0x20, 40, 2, 42)
        self.pair(0x20, GREATEST, 1, LEAST, rA=64)
        self.pair(0x20, LEAST, -1, GREATEST, rA=64)
        self.pair(0x20, -1, 1, 0)
        self.pair(0x22, MASK, 1, 0)
        self.pair(0x22, GREATEST, 1, LEAST)
        self.pair(0x24, 40, 2, 38)
        self.pair(0x24, LEAST, 1, GREATEST, rA=64)
        self.pair(0x24, 0, LEAST, LEAST, rA=64)
        self.pair(0x24, 0, 1, MASK)
        self.pair(0x26, LEAST, 1, GREATEST)
        self.pair(0x26, 0, 1, MASK)

    def test_sums_of_many(self):
        for op, factor in ((0x28, 2), (0x2A, 4), (0x2C, 8), (0x2E, 16)):
            self.pair(op, 10, 3, 10 * factor + 3)
            self.pair(op, MASK, 255, 255 - factor)
            self.pair(op, LEAST, MASK, MASK)

    def test_comparisons(self):
        self.pair(0x30, 3, 4, -1)
        self.pair(0x30, 4, 4, 0)
        self.pair(0x30, 5, 4, 1)
        self.pair(0x30, -1, 4, -1)
        self.pair(0x30, GREATEST, LEAST, 1)
        self.pair(0x32, 3, 4, -1)
        self.pair(0x32, 4, 4, 0)
        self.pair(0x32, -1, 4, 1)
        self.pair(0x32, GREATEST, LEAST, -1)

    def test_negations(self):
        # The first is Y itself: $7 is not looked at.
        self.holds((0x34, 3, 7, 2), {2: 9}, {3: -2})
        self.holds((0x35, 3, 7, 9), {2: 1}, {3: -2})
        self.holds((0x34, 3, 0, 2), {2: LEAST}, {3: LEAST, "rA": 64})
        self.holds((0x34, 3, 255, 2), {2: -(LEAST - 256)}, {3: GREATEST})
        self.holds((0x34, 3, 255, 2), {2: -(LEAST - 255)}, {3: LEAST, "rA": 64})
        self.holds((0x36, 3, 0, 2), {2: LEAST}, {3: LEAST})
        self.holds((0x36, 3, 7, 2), {2: 9}, {3: -2})
        self.holds((0x37, 3, 7, 9), {2: 1}, {3: -2})

    def test_shifts(self):
        self.pair(0x38, 5, 3, 40)
        self.pair(0x38, 1, 62, 1 << 62)
        self.pair(0x38, 1, 63, LEAST, rA=64)
        self.pair(0x38, -1, 63, LEAST)
        self.pair(0x38, -1, 64, 0, rA=64)
        self.pair(0x38, 0, 255, 0)
        self.pair(0x38, 1, MASK, 0, rA=64)
        self.pair(0x3A, -1, 63, LEAST)
        self.pair(0x3A, -1, 64, 0)
        self.pair(0x3A, -1, MASK, 0)
        self.pair(0x3C, 41, 3, 5)
        self.pair(0x3C, -41, 3, -6)
        self.pair(0x3C, -41, 64, -1)
        self.pair(0x3C, 41, MASK, 0)
        self.pair(0x3E, -1, 63, 1)
        self.pair(0x3E, -1, 64, 0)
        self.pair(0x3E, 41, 3, 5)


class Bits(Case):
    def test_bit_by_bit(self):
        y, z = 0b1100, 0b1010
        for op, low, high in (
            (0xC0, 0b1110, 0), (0xC2, 0b1101, 1), (0xC4, 0b0001, 1), (0xC6, 0b0110, 0), (0xC8, 0b1000, 0),
            (0xCA, 0b0100, 0), (0xCC, 0b0111, 1), (0xCE, 0b1001, 1),
        ):
            self.pair(op, y, z, low | (MASK - 15) * high)

    def test_differences(self):
        y, z = 0x0100_0005_8000_00FF, 0x0001_0003_8001_01FE
        self.pair(0xD0, y, z, 0x0100_0002_0000_0001)
        self.pair(0xD2, y, z, 0x00FF_0002_0000_0000)
        self.pair(0xD4, y, z, 0x00FF_0002_0000_0000)
        self.pair(0xD6, y, z, 0x00FF_0001_FFFE_FF01)
        for op in (0xD0, 0xD2, 0xD4, 0xD6):
            self.pair(op, 0, 255, 0)
            self.pair(op, 255, 0, 255)
            self.pair(op, MASK, MASK, 0)
            self.pair(op, MASK, 0, MASK)

    def test_mux(self):
        self.pair(0xD8, 0xFF, 0x33, 0xF3, {"rM": 0xF0})
        self.pair(0xD8, 0x1234, 0xAB, 0xAB, {"rM": 0})
        self.pair(0xD8, 0x1234, 0xAB, 0x1234, {"rM": MASK})

    def test_sadd(self):
        self.pair(0xDA, MASK, 0, 64)
        self.pair(0xDA, MASK, 255, 56)
        self.pair(0xDA, 0, 255, 0)
        self.pair(0xDA, 0b1011, 0b0010, 2)

    def test_mor_and_mxor(self):
        word = 0x0123456789ABCDEF
        for op in (0xDC, 0xDE):
            self.pair(op, word, 0x8040201008040201, word)
            self.pair(op, word, 0x0102040810204080, 0xEFCDAB8967452301)
            self.pair(op, word, 0x80, 0x01)
            self.pair(op, word, 0x01, 0xEF)
            self.pair(op, word, 0, 0)
        self.pair(0xDC, word, 0xC0, 0x23)
        self.pair(0xDE, word, 0xC0, 0x22)
        self.pair(0xDC, word, 0xFF << 56, 0xEF << 56)
        self.pair(0xDE, word, 0xFF << 56, 0)


ZERO, ONE, TWO, THREE, HALF = 0, 0x3FF0 << 48, 0x4000 << 48, 0x4008 << 48, 0x3FE0 << 48
FIVE, TWO_AND_A_HALF, QUARTER = 0x4014 << 48, 0x4004 << 48, 0x3FD0 << 48
INFINITY, NO_NUMBER, LOUD = 0x7FF0 << 48, 0x7FF8 << 48, 0xFFF4 << 48
SIGN = LEAST
MOST = INFINITY - 1
NORMAL = 0x0010 << 48
MANY_3 = 0x3FD5555555555555


class Floating(Case):
    def two(self, op, y, z, x, flags=0, mode=NEAREST):
        changed = {3: x, "rA": mode | flags}
        self.holds((op, 3, 1, 2), {1: y, 2: z, "rA": mode}, changed)

    def one(self, op, z, results, flags):
        """Of $2, by each rounding: first as rA tells, then as Y tells, whatever rA's is."""
        for mode, y, x in zip(MODES, (4, 1, 2, 3), results):
            self.holds((op, 3, 0, 2), {2: z, "rA": mode}, {3: x, "rA": mode | flags})
            for other in MODES:
                self.holds((op, 3, y, 2), {2: z, "rA": other}, {3: x, "rA": other | flags})

    def test_fcmp_fun_feql(self):
        for y, z, found in (
            (ONE, TWO, (-1, 0, 0, 0)), (TWO, ONE, (1, 0, 0, 0)), (ONE, ONE, (0, 0, 1, 0)), (ZERO, SIGN, (0, 0, 1, 0)),
            (ONE | SIGN, TWO | SIGN, (1, 0, 0, 0)), (INFINITY | SIGN, 1 | SIGN, (-1, 0, 0, 0)),
            (INFINITY, INFINITY, (0, 0, 1, 0)), (MOST, INFINITY, (-1, 0, 0, 0)), (1, ZERO, (1, 0, 0, 0)),
            (NO_NUMBER, ONE, (0, 1, 0, 16)), (ONE, LOUD, (0, 1, 0, 16)), (NO_NUMBER, NO_NUMBER, (0, 1, 0, 16)),
        ):
            self.two(0x01, y, z, found[0], found[3])
            self.two(0x02, y, z, found[1])
            self.two(0x03, y, z, found[2])

    def test_fadd_and_fsub(self):
        for y, z, x, flags in (
            (ONE, TWO, THREE, 0), (ONE, INFINITY, INFINITY, 0), (INFINITY, INFINITY, INFINITY, 0),
            (INFINITY, INFINITY | SIGN, NO_NUMBER, 16), (NO_NUMBER | SIGN | 7, ONE, NO_NUMBER, 0),
            (ONE, LOUD, NO_NUMBER, 16), (NO_NUMBER, LOUD, NO_NUMBER, 16), (ZERO, ZERO, ZERO, 0), (SIGN, SIGN, SIGN, 0),
            (1, 1, 2, 0), (NORMAL, 1 | SIGN, NORMAL - 1, 0), (TWO, HALF, TWO_AND_A_HALF, 0),
        ):
            for mode in MODES:
                self.two(0x04, y, z, x, flags, mode)
                self.two(0x06, y, z ^ SIGN, x, flags, mode)

    def test_sums_that_are_rounded(self):
        small = 0x3CA0 << 48  # 2^-53: half of the last place of 1
        for y, z, results, flags in (
            (ONE, small, (ONE, ONE, ONE + 1, ONE), 1), (ONE + 1, small, (ONE + 2, ONE + 1, ONE + 2, ONE + 1), 1),
            (ONE | SIGN, small | SIGN, (ONE | SIGN, ONE | SIGN, ONE | SIGN, ONE + 1 | SIGN), 1),
            (ONE, ONE | SIGN, (0, 0, 0, SIGN), 0), (SIGN, ZERO, (0, 0, 0, SIGN), 0),
            (MOST, MOST, (INFINITY, MOST, INFINITY, MOST), 9),
            (MOST | SIGN, MOST | SIGN, (INFINITY | SIGN, MOST | SIGN, MOST | SIGN, INFINITY | SIGN), 9),
        ):
            for mode, x in zip(MODES, results):
                self.two(0x04, y, z, x, flags, mode)
                self.two(0x06, y, z ^ SIGN, x, flags, mode)

    def test_fmul(self):
        for y, z, x, flags in (
            (TWO, HALF | SIGN, ONE | SIGN, 0), (ZERO, ONE | SIGN, SIGN, 0), (INFINITY, TWO | SIGN, INFINITY | SIGN, 0),
            (INFINITY, ZERO, NO_NUMBER, 16), (NO_NUMBER, ZERO, NO_NUMBER, 0), (LOUD, ZERO, NO_NUMBER, 16),
            (NORMAL, HALF, NORMAL >> 1, 0),
        ):
            for mode in MODES:
                self.two(0x10, y, z, x, flags, mode)
        for y, z, results, flags in (
            (1, HALF, (0, 0, 1, 0), 5), (3 | SIGN, HALF, (2 | SIGN, 1 | SIGN, 1 | SIGN, 2 | SIGN), 5),
            (ONE + 1, ONE + 1, (ONE + 2, ONE + 2, ONE + 3, ONE + 2), 1),
            (NORMAL + 1, ONE - 1, (NORMAL, NORMAL, NORMAL + 1, NORMAL), 1),
            (NORMAL, ONE - 1, (NORMAL, NORMAL - 1, NORMAL, NORMAL - 1), 5),
            (MOST, TWO, (INFINITY, MOST, INFINITY, MOST), 9),
        ):
            for mode, x in zip(MODES, results):
                self.two(0x10, y, z, x, flags, mode)

    def test_fdiv(self):
        for y, z, x, flags in (
            (ONE, TWO, HALF, 0), (ONE, ZERO, INFINITY, 2), (ONE, SIGN, INFINITY | SIGN, 2), (ZERO, SIGN, NO_NUMBER, 16),
            (INFINITY, INFINITY, NO_NUMBER, 16), (ONE | SIGN, INFINITY, SIGN, 0), (INFINITY, ZERO, INFINITY, 0),
            (ZERO, ONE, ZERO, 0), (NO_NUMBER, ZERO, NO_NUMBER, 0), (ZERO, LOUD, NO_NUMBER, 16),
        ):
            for mode in MODES:
                self.two(0x14, y, z, x, flags, mode)
        for y, z, results, flags in (
            (ONE, THREE, (MANY_3, MANY_3, MANY_3 + 1, MANY_3), 1),
            (ONE | SIGN, THREE, (MANY_3 | SIGN, MANY_3 | SIGN, MANY_3 | SIGN, MANY_3 + 1 | SIGN), 1),
            (1, TWO, (0, 0, 1, 0), 5), (MOST, HALF, (INFINITY, MOST, INFINITY, MOST), 9),
        ):
            for mode, x in zip(MODES, results):
                self.two(0x14, y, z, x, flags, mode)

    def test_frem(self):
        for y, z, x, flags in (
            (FIVE, THREE, ONE | SIGN, 0), (FIVE | SIGN, THREE, ONE, 0), (FIVE, TWO, ONE, 0), (THREE, TWO, ONE | SIGN, 0),
            (FIVE, THREE | SIGN, ONE | SIGN, 0), (FIVE | SIGN, FIVE, SIGN, 0), (SIGN, FIVE, SIGN, 0),
            (FIVE, ZERO, NO_NUMBER, 16), (INFINITY, FIVE, NO_NUMBER, 16), (FIVE, INFINITY | SIGN, FIVE, 0),
            (NO_NUMBER, FIVE, NO_NUMBER, 0), (FIVE, LOUD, NO_NUMBER, 16), (MOST, 3, 1 | SIGN, 0),
        ):
            for mode in MODES:
                self.two(0x16, y, z, x, flags, mode)

    def test_fix_and_fixu(self):
        for op in (0x05, 0x07):
            self.one(op, TWO_AND_A_HALF, (2, 2, 3, 2), 1)
            self.one(op, TWO_AND_A_HALF | SIGN, (-2, -2, -2, -3), 1)
            self.one(op, HALF, (0, 0, 1, 0), 1)
            self.one(op, 1 | SIGN, (0, 0, 0, -1), 1)
            self.one(op, FIVE, (5, 5, 5, 5), 0)
            self.one(op, SIGN, (0, 0, 0, 0), 0)
            for word in (INFINITY, INFINITY | SIGN, NO_NUMBER | 5, LOUD):
                self.one(op, word, (word,) * 4, 16)
            self.one(op, 0xC3E0 << 48, (LEAST,) * 4, 0)
        self.one(0x05, 0x43E0 << 48, (LEAST,) * 4, 32)
        self.one(0x05, 0xC3E0000000000001, (LEAST - 2048,) * 4, 32)
        self.one(0x05, 0x43F0000000000001, (4096,) * 4, 32)
        self.one(0x07, 0x43E0 << 48, (LEAST,) * 4, 0)
        self.one(0x07, 0xC3E0000000000001, (LEAST - 2048,) * 4, 0)
        self.one(0x07, 0x43F0000000000001, (4096,) * 4, 0)

    def test_fsqrt(self):
        root = 0x3FF6A09E667F3BCC
        self.one(0x15, 0x4010 << 48, (TWO,) * 4, 0)
        self.one(0x15, TWO, (root + 1, root, root + 1, root), 1)
        for word, x, flags in (
            (ZERO, ZERO, 0), (SIGN, SIGN, 0), (INFINITY, INFINITY, 0), (INFINITY | SIGN, NO_NUMBER, 16),
            (ONE | SIGN, NO_NUMBER, 16), (NO_NUMBER | SIGN, NO_NUMBER, 0), (LOUD, NO_NUMBER, 16),
        ):
            self.one(0x15, word, (x,) * 4, flags)

    def test_fint(self):
        self.one(0x17, TWO_AND_A_HALF, (TWO, TWO, THREE, TWO), 1)
        self.one(0x17, QUARTER | SIGN, (SIGN, SIGN, SIGN, ONE | SIGN), 1)
        self.one(0x17, 1, (0, 0, ONE, 0), 1)
        for word, x, flags in (
            (FIVE, FIVE, 0), (SIGN, SIGN, 0), (MOST, MOST, 0), (INFINITY | SIGN, INFINITY | SIGN, 0),
            (NO_NUMBER | SIGN, NO_NUMBER, 0), (LOUD, NO_NUMBER, 16),
        ):
            self.one(0x17, word, (x,) * 4, flags)

    def test_flot_and_flotu(self):
        tie, above = (1 << 53) + 1, 0x4340000000000001
        for op in (0x08, 0x0A):
            self.one(op, 0, (ZERO,) * 4, 0)
            self.one(op, 5, (FIVE,) * 4, 0)
            self.one(op, tie, (above - 1, above - 1, above, above - 1), 1)
        self.one(0x08, -tie, (above - 1 | SIGN, above - 1 | SIGN, above - 1 | SIGN, above | SIGN), 1)
        self.one(0x08, LEAST, (0xC3E0 << 48,) * 4, 0)
        self.one(0x0A, LEAST, (0x43E0 << 48,) * 4, 0)
        self.one(0x08, MASK, (ONE | SIGN,) * 4, 0)
        most = 0x43F0 << 48
        self.one(0x0A, MASK, (most, most - 1, most, most - 1), 1)

    def test_sflot_and_sflotu(self):
        tie, below, above = (1 << 24) + 1, 0x4170000000000000, 0x4170000020000000
        for op in (0x0C, 0x0E):
            self.one(op, 0, (ZERO,) * 4, 0)
            self.one(op, 5, (FIVE,) * 4, 0)
            self.one(op, tie, (below, below, above, below), 1)
            self.one(op, tie + 2, (above + 0x20000000, above, above + 0x20000000, above), 1)
        self.one(0x0C, -tie, (below | SIGN, below | SIGN, below | SIGN, above | SIGN), 1)
        self.one(0x0C, MASK, (ONE | SIGN,) * 4, 0)
        most = 0x43F0 << 48
        self.one(0x0E, MASK, (most, most - 0x20000000, most, most - 0x20000000), 1)

    def test_z_itself(self):
        for op in (0x09, 0x0B, 0x0D, 0x0F):
            for y in range(5):
                self.holds((op, 3, y, 5), {5: 9}, {3: FIVE})
                self.holds((op, 3, y, 255), {}, {3: 0x406FE00000000000})

    def test_roundings_that_there_are_not(self):
        for op in (0x05, 0x07, 0x08, 0x09, 0x0A, 0x0B, 0x0C, 0x0D, 0x0E, 0x0F, 0x15, 0x17):
            for y in (5, 6, 128, 255):
                self.fault(2, (op, 3, y, 2), {2: TWO_AND_A_HALF})

    def test_flags_are_put_on_ra(self):
        self.holds((0x14, 3, 1, 2), {1: ONE, 2: THREE, "rA": UP | 0x52}, {3: MANY_3 + 1, "rA": UP | 0x53})
        self.holds((0x14, 3, 1, 2), {1: ONE, 2: TWO, "rA": DOWN | 0xFF}, {3: HALF})
        self.holds((0x14, 3, 1, 2), {1: ONE, 2: THREE, "rA": UP | 0xFF}, {3: MANY_3 + 1})
        self.holds((0x04, 3, 1, 2), {1: MOST, 2: MOST, "rA": UP | 1}, {3: INFINITY, "rA": UP | 9})


# Of -1, -2, 0, 1, 2, the least and the greatest, those for which N, Z, P, OD, NN, NZ, NP, EV hold.
ASKED = (-1, -2, 0, 1, 2, LEAST, GREATEST)
HOLD = (
    (-1, -2, LEAST), (0,), (1, 2, GREATEST), (-1, 1, GREATEST),
    (0, 1, 2, GREATEST), (-1, -2, 1, 2, LEAST, GREATEST), (-1, -2, 0, LEAST), (-2, 0, 2, LEAST),
)


class Flow(Case):
    def test_branches(self):
        for k in range(16):
            for value in ASKED:
                for op, far in ((0x40 + 2 * k, 300), (0x41 + 2 * k, -300)):
                    target = PROGRAM + (4 * far if value in HOLD[k % 8] else 4)
                    self.holds((op, 1, far & 0xFFFF), {1: value}, {"place": target})

    def test_sets_on_a_question(self):
        for k in range(8):
            for value in ASKED:
                so = value in HOLD[k]
                self.holds((0x60 + 2 * k, 3, 1, 2), {1: value}, {3: 72 if so else 73})
                self.holds((0x61 + 2 * k, 3, 1, 200), {1: value}, {3: 200 if so else 73})
                self.holds((0x70 + 2 * k, 3, 1, 2), {1: value}, {3: 72 if so else 0})
                self.holds((0x71 + 2 * k, 3, 1, 200), {1: value}, {3: 200 if so else 0})

    def test_jmp(self):
        for far in (0, 1, 0xFFFF, 0xFFFFFF):
            parts = (far >> 16, far >> 8 & 255, far & 255)
            self.holds((0xF0, *parts), {}, {"place": PROGRAM + 4 * far})
            self.holds((0xF1, *parts), {}, {"place": PROGRAM + 4 * (far - (1 << 24))})

    def test_go(self):
        self.holds((0x9E, 3, 1, 2), {1: 0x5000, 2: 0x30}, {3: PROGRAM + 4, "place": 0x5030})
        self.holds((0x9F, 3, 1, 0x31), {1: 0x5000}, {3: PROGRAM + 4, "place": 0x5031})
        self.holds((0x9F, 1, 1, 1), {1: MASK}, {1: PROGRAM + 4, "place": 0})
        self.holds((0x9F, 9, 1, 0), {1: MASK}, {9: PROGRAM + 4, "rL": 10, "place": MASK})

    def test_geta(self):
        for far in (0, 1, 0x1234, 0xFFFF):
            self.holds((0xF4, 3, far), {}, {3: PROGRAM + 4 * far})
            self.holds((0xF5, 3, far), {}, {3: PROGRAM + 4 * (far - 65536)})

    def test_constants(self):
        before = 0xF0F0_8001_7FFF_00FF
        for k, shift in enumerate((48, 32, 16, 0)):
            word = 0x8123 << shift
            self.holds((0xE0 + k, 3, 0x8123), {3: before}, {3: word})
            self.holds((0xE4 + k, 3, 0x8123), {3: before}, {3: before + word})
            self.holds((0xE4 + k, 3, 0xFFFF), {3: MASK}, {3: MASK + (0xFFFF << shift)})
            self.holds((0xE8 + k, 3, 0x8123), {3: before}, {3: before | word})
            self.holds((0xEC + k, 3, 0x8123), {3: before}, {3: before & ~word})
        self.holds((0xE3, 9, 7), {}, {9: 7, "rL": 10})

    def test_nothing(self):
        for op in (0x9A, 0x9B, 0x9C, 0x9D, 0xB8, 0xB9, 0xBA, 0xBB, 0xBC, 0xBD, 0xFC, 0xFD):
            self.holds((op, 3, 1, 2), {1: DATA}, {})
            self.holds((op, 9, 255, 255), {1: MASK}, {})

    def test_trap(self):
        self.holds((0, 0, 0, 0), {}, {"rXX": 0, "place": PROGRAM + 4}, 1)
        self.holds((0, 0, 0, 1), {}, {"rXX": 1, "place": PROGRAM + 4}, 2)
        self.holds((0, 1, 0, 0), {}, {"rXX": 0x10000, "place": PROGRAM + 4}, 2)
        self.holds((0, 255, 255, 255), {}, {"rXX": 0xFFFFFF, "place": PROGRAM + 4}, 2)

    def test_no_such_instruction(self):
        for op in (0x11, 0x12, 0x13, 0x98, 0x99, 0xF9, 0xFA, 0xFB, 0xFF):
            self.fault(2, (op, 3, 1, 2))
            self.fault(2, (op, 0, 0, 0))


class Storage(Case):
    WORD = 0x8192A3B475D6E7F8

    def at(self, op, offset, given, changed, x=3):
        """The place by $1 + $2, and by $1 + Z."""
        self.holds((op, x, 1, 2), {1: DATA, 2: offset} | given, changed)
        self.holds((op + 1, x, 1, offset), {1: DATA} | given, changed)
        self.holds((op, x, 1, 2), {1: MASK - 3, 2: DATA + 4 + offset} | given, changed)

    def test_loads(self):
        for op, offset, x in (
            (0x80, 0, -127), (0x80, 4, 0x75), (0x82, 0, 0x81), (0x82, 7, 0xF8), (0x84, 0, 0x8192 - 0x10000),
            (0x84, 5, 0x75D6), (0x86, 1, 0x8192), (0x86, 7, 0xE7F8), (0x88, 3, 0x8192A3B4 - (1 << 32)),
            (0x88, 6, 0x75D6E7F8), (0x8A, 0, 0x8192A3B4), (0x8A, 7, 0x75D6E7F8), (0x8C, 0, self.WORD),
            (0x8C, 7, self.WORD), (0x8E, 5, self.WORD), (0x92, 2, 0x8192A3B4 << 32), (0x92, 7, 0x75D6E7F8 << 32),
            (0x96, 0, self.WORD), (0x96, 3, self.WORD),
        ):
            self.at(op, offset, {"M": self.WORD}, {3: x})

    def test_stores(self):
        past = {"rA": 64}
        for op, offset, word, m, changed in (
            (0xA0, 0, 127, 0x7F << 56, {}), (0xA0, 7, 128, 0x80, past), (0xA0, 3, -128, 0x80 << 32, {}),
            (0xA0, 3, -129, 0x7F << 32, past), (0xA2, 3, -129, 0x7F << 32, {}), (0xA2, 6, 0x1FE, 0xFE00, {}),
            (0xA4, 1, 32767, 0x7FFF << 48, {}), (0xA4, 7, 32768, 0x8000, past), (0xA4, 4, -32768, 0x8000 << 16, {}),
            (0xA4, 4, -32769, 0x7FFF << 16, past), (0xA6, 4, -32769, 0x7FFF << 16, {}),
            (0xA8, 0, (1 << 31) - 1, 0x7FFFFFFF << 32, {}), (0xA8, 7, 1 << 31, 1 << 31, past),
            (0xA8, 7, -(1 << 31), 1 << 31, {}), (0xA8, 2, -(1 << 31) - 1, 0x7FFFFFFF << 32, past),
            (0xAA, 2, -(1 << 31) - 1, 0x7FFFFFFF << 32, {}), (0xAC, 5, LEAST, LEAST, {}), (0xAE, 5, MASK, MASK, {}),
            (0xB2, 0, self.WORD, 0x8192A3B4 << 32, {}), (0xB2, 5, self.WORD, 0x8192A3B4, {}),
            (0xB6, 7, self.WORD, self.WORD, {}),
        ):
            self.at(op, offset, {3: word}, {"M": m} | changed)

    def test_stco(self):
        for x in (0, 3, 255):
            self.at(0xB4, 6, {"M": self.WORD}, {"M": x}, x)

    def test_cswap(self):
        self.at(0x94, 6, {"M": self.WORD, "rP": self.WORD, 3: 5}, {"M": 5, 3: 1})
        self.at(0x94, 6, {"M": self.WORD, "rP": self.WORD + 1, 3: 5}, {3: 0, "rP": self.WORD})

    def test_ldsf(self):
        for short, word in (
            (0x3FC00000, 0x3FF8 << 48), (0xC0A00000, FIVE | SIGN), (0, 0), (0x80000000, SIGN), (1, 0x36A0 << 48),
            (0x7FFFFF, 0x380FFFFFC0000000), (0x800000, 0x3810 << 48), (0x7F7FFFFF, 0x47EFFFFFE0000000),
            (0x7F800000, INFINITY), (0xFF800001, 0xFFF0000020000000), (0x7FC00000, NO_NUMBER),
        ):
            self.at(0x90, 1, {"M": short << 32}, {3: word})
            self.at(0x90, 7, {"M": short}, {3: word})

    def test_stsf(self):
        third = 0x3EAAAAAA
        for word, shorts, flags in (
            (0x3FF8 << 48, (0x3FC00000,) * 4, 0), (SIGN, (1 << 31,) * 4, 0), (INFINITY, (0x7F800000,) * 4, 0),
            (MANY_3, (third + 1, third, third + 1, third), 1),
            (MANY_3 | SIGN, (third + 1 | 1 << 31, third | 1 << 31, third | 1 << 31, third + 1 | 1 << 31), 1),
            (0x3690 << 48, (0, 0, 1, 0), 5), (0x36A0 << 48, (1,) * 4, 0),
            (0x380FFFFFE0000000, (0x800000, 0x7FFFFF, 0x800000, 0x7FFFFF), 5), (0x3810 << 48, (0x800000,) * 4, 0),
            (0x47F0 << 48, (0x7F800000, 0x7F7FFFFF, 0x7F800000, 0x7F7FFFFF), 9),
            (MOST | SIGN, (0xFF800000, 0xFF7FFFFF, 0xFF7FFFFF, 0xFF800000), 9),
            (NO_NUMBER | SIGN | 1 << 29, (0xFFC00001,) * 4, 0), (0x7FF0000000000001, (0x7FC00000,) * 4, 16),
        ):
            for mode, short in zip(MODES, shorts):
                self.at(0xB0, 2, {3: word, "rA": mode}, {"M": short << 32, "rA": mode | flags})
                self.at(0xB0, 6, {3: word, "rA": mode}, {"M": short, "rA": mode | flags})

    def test_past_memory(self):
        for op in (*range(0x80, 0x98), *range(0xA0, 0xB8)):
            for place in (SIZE, SIZE + DATA, 1 << 32 | DATA, LEAST | DATA, MASK - 255):
                self.fault(1, (op, 3, 1, 0), {0: 0, 1: place, 3: MASK, "M": MASK, "rP": MASK})


class Registers(Case):
    def test_get(self):
        for name, number in NUMBERS.items():
            word = {"rL": 5}.get(name, SPECIAL.get(name))
            self.holds((0xFE, 3, 0, number), {}, {3: word})
        for number in range(8, 19):
            self.holds((0xFE, 3, 0, number), {}, {3: 0})
        self.holds((0xFE, 9, 0, 29), {}, {9: SPECIAL["rXX"], "rL": 10})

    def test_get_of_what_is_not_allowed(self):
        for number in (32, 33, 255):
            self.fault(3, (0xFE, 3, 0, number))
        for y in (1, 255):
            self.fault(3, (0xFE, 3, y, 29))

    def test_put(self):
        for name, number in NUMBERS.items():
            if name not in ("rG", "rL", "rA"):
                self.holds((0xF6, number, 0, 2), {2: MASK}, {name: MASK})
                self.holds((0xF7, number, 0, 2), {}, {name: 2})

    def test_put_of_what_is_not_allowed(self):
        for number in (*range(8, 19), 32, 33, 255):
            self.fault(3, (0xF6, number, 0, 2), {2: 100})
            self.fault(3, (0xF7, number, 0, 100))
        for number in (1, 19, 20, 21):
            for y in (1, 255):
                self.fault(3, (0xF7, number, y, 100))

    def test_put_rl(self):
        self.holds((0xF7, 20, 0, 3), {}, {"rL": 3, 3: 0, 4: 0})
        self.holds((0xF7, 20, 0, 0), {}, {"rL": 0, 0: 0, 1: 0, 2: 0, 3: 0, 4: 0})
        self.holds((0xF7, 20, 0, 5), {}, {})
        self.holds((0xF7, 20, 0, 6), {}, {})
        self.holds((0xF6, 20, 0, 2), {2: MASK}, {})

    def test_put_rg(self):
        self.holds((0xF7, 19, 0, 32), {}, {"rG": 32})
        self.holds((0xF7, 19, 0, 200), {"rG": 32, 32: 1, 200: 2, 254: 3}, {"rG": 200, 32: 0})
        self.holds((0xF7, 19, 0, 32), {"rG": 200, 200: 2, 31: 4}, {"rG": 32})
        self.holds((0xF7, 19, 0, 255), {"rG": 32, 254: 3}, {"rG": 255, 254: 0})
        self.holds((0xF6, 19, 0, 2), {2: 254}, {"rG": 254})
        for word in (0, 31, 256, 1 << 32 | 40, MASK):
            self.fault(3, (0xF6, 19, 0, 2), {2: word})
        self.holds((0xF7, 19, 0, 33), {32: 4}, {"rG": 33})
        self.fault(3, (0xF7, 19, 0, 32), {32: 4})

    def test_put_ra(self):
        for word in (0, 0xFF, 0x10000, 0x30000, 0x300FF):
            self.holds((0xF6, 21, 0, 2), {2: word, "rA": 0x20011}, {"rA": word})
        for word in (0x100, 0x8000, 0xFF00, 0x40000, LEAST, MASK):
            self.fault(3, (0xF6, 21, 0, 2), {2: word, "rA": 0x20011})

    def test_pushj_and_pushgo(self):
        for x, changed in (
            (0, {0: 71, 1: 72, 2: 73, 3: 74, 4: 0, "rL": 4}), (2, {0: 73, 1: 74, 2: 0, 3: 0, 4: 0, "rL": 2}),
            (4, {0: 0, 1: 0, 2: 0, 3: 0, 4: 0, "rL": 0}), (9, {0: 0, 1: 0, 2: 0, 3: 0, 4: 0, "rL": 0}),
            (254, {0: 0, 1: 0, 2: 0, 3: 0, 4: 0, "rL": 0}), (255, {0: 0, 1: 0, 2: 0, 3: 0, 4: 0, "rL": 0}),
        ):
            told = changed | {"rJ": PROGRAM + 4}
            self.holds((0xF2, x, 0x1234), {}, told | {"place": PROGRAM + 4 * 0x1234})
            self.holds((0xF3, x, 0xFFFE), {}, told | {"place": PROGRAM - 8})
            self.holds((0xBE, x, 255, 254), {255: 0x5001}, told | {"place": 0x5001})
            self.holds((0xBF, x, 255, 0x33), {255: 0x5000}, told | {"place": 0x5033})
        # A is made of the registers as they were.
        self.holds((0xBE, 2, 1, 3), {}, {0: 73, 1: 74, 2: 0, 3: 0, 4: 0, "rL": 2, "rJ": PROGRAM + 4, "place": 144})

    def test_pop(self):
        self.fault(4, (0xF8, 0, 0, 0))
        self.fault(4, (0xF8, 3, 0, 1))
        # PUSHJ $2 leaves $0 and $1 with 73, 74; then a POP of X.
        for x, kept in ((0, []), (1, [73]), (2, [74, 73]), (3, [0, 73, 74]), (255, [0, 73, 74])):
            state = after([(0xF2, 2, 1), (0xF8, x, 0x0102)], PLAIN, see=SEEN)
            expected = [70, 71] + kept
            self.assertEqual((state.answer, state.specials[20]), (0, len(expected)))
            self.assertEqual([state.registers[k] for k in range(5)], expected + [0] * (5 - len(expected)))
            self.assertEqual((state.place, state.specials[4]), (PROGRAM + 4 + 4 * 0x0102, PROGRAM + 4))

    def test_too_much_pushed(self):
        # Each push is of 255 words: 257 of them are 65535, and one more is too much.
        program = [(0xF2, 254, 0)]
        state = after(program, {255: 5}, see=SEEN, steps=300)
        self.assertEqual((state.answer, state.place, state.specials[4], state.specials[20]), (-5, PROGRAM, PROGRAM + 4, 0))
        self.assertEqual(state.registers, {number: 5 if number == 255 else 0 for number in SEEN})


if __name__ == "__main__":
    unittest.main()

"""The machine: its memory, its registers, what is pushed, and the place."""

from wordrunner.faults import PastMemory
from wordrunner.words import MASK

MEMORY_SIZE = 0x100000

RD = 1
RH = 3
RJ = 4
RM = 5
RR = 6
RG = 19
RL = 20
RA = 21
RP = 23
RXX = 29


class Machine:
    def __init__(self):
        self.begin()

    def begin(self):
        # Memory is kept by words of eight bytes, and only those that were written:
        # no M(n) crosses such a word, and a new memory costs nothing.
        self.memory = {}
        self.local = []
        self.wide = [0] * 256
        self.special = [0] * 32
        self.special[RG] = 255
        self.pushed = []
        self.place = 0
        # Where the run goes on behind the instruction at hand. An instruction that jumps changes
        # this and not the place, so that the place still stands when a fault comes.
        self.behind = 0

    def load(self, place, size):
        """M(size) at the place."""
        if place >= MEMORY_SIZE:
            raise PastMemory()
        shift = 64 - 8 * (size + (place & 7 & -size))
        mask = (1 << 8 * size) - 1
        return (self.memory.get(place >> 3, 0) >> shift) & mask

    def store(self, place, size, value):
        """Makes M(size) at the place the low part of the value."""
        if place >= MEMORY_SIZE:
            raise PastMemory()
        shift = 64 - 8 * (size + (place & 7 & -size))
        mask = (1 << 8 * size) - 1
        others = self.memory.get(place >> 3, 0) & ~(mask << shift)
        self.memory[place >> 3] = others | ((value & mask) << shift)

    def value_of(self, number):
        """What register $number holds."""
        if number >= self.special[RG]:
            return self.wide[number]
        if number < len(self.local):
            return self.local[number]
        return 0

    def give(self, number, value):
        """Sets register $number; one below rG is local then, and those below it."""
        if number >= self.special[RG]:
            self.wide[number] = value
            return
        self.make_local(number + 1)
        self.local[number] = value

    def make_local(self, count):
        """Makes at least so many registers local."""
        while len(self.local) < count:
            self.local.append(0)

    def special_of(self, number):
        if number == RL:
            return len(self.local)
        return self.special[number]

    def add_flags(self, flags):
        self.special[RA] |= flags

    def rounding(self):
        """rA's rounding: 0 to the nearest, 1 towards 0, 2 up, 3 down."""
        return (self.special[RA] >> 16) & 3

    def go_on(self):
        """The place that comes next where the instruction does not tell another."""
        self.behind = (self.place + 4) & MASK

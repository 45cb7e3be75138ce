"""Words of 64 bits, with and without their sign."""

MASK = 0xFFFFFFFFFFFFFFFF


def signed_part(part, bits):
    """The whole number that a part of so many bits stands for, with its sign."""
    if part >> (bits - 1):
        return part - (1 << bits)
    return part


def signed(word):
    return signed_part(word, 64)


def fits(value, bits):
    """Whether a whole number has room in so many bits, with its sign."""
    half = 1 << (bits - 1)
    return -half <= value < half


def compared(first, second):
    """-1, 0 or 1 as a word: how the first number stands to the second."""
    if first < second:
        return MASK
    if first > second:
        return 1
    return 0

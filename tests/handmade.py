"""Frames that are put together by hand, for the tests of unpack."""

from document import bytes_of, written, xxhash

FIRST_FOUR = [0x04, 0x22, 0x4D, 0x18]
END = [0, 0, 0, 0]

# A frame's byte of flags, without and with the blocks' standing alone, and what may be put on.
LINKED = 0x40
ALONE = 0x60
BLOCK_SUMS = 0x10
LENGTH = 0x08
TEXT_SUM = 0x04

# The other byte of the head, and how long a block may be.
SIZES = {0x40: 2 ** 16, 0x50: 2 ** 18, 0x60: 2 ** 20, 0x70: 2 ** 22}

LONGEST_TEXT = 1048576


def sum_bytes(data):
    return bytes_of(xxhash(data), 4)


def spoiled(data, place=0):
    """The same bytes with one of them another."""
    data = list(data)
    data[place] ^= 1
    return data


def head(flags=ALONE, size=0x40, length=None):
    told = [flags, size] + ([] if length is None else bytes_of(length, 8))
    return FIRST_FOUR + told + [xxhash(told) >> 8 & 255]


def own(data):
    """A block that stands for itself, with how long it is."""
    return bytes_of(len(data) + 2 ** 31, 4) + list(data)


def packed(block):
    """A block of parts, with how long it is."""
    return bytes_of(len(block), 4) + list(block)


def run(byte, count):
    """A block whose text is so many times the byte."""
    return written([([byte], 1, count - 6), ([byte] * 5, None, None)])


def framed(*blocks, flags=ALONE, size=0x40):
    """A frame without sums and length."""
    return head(flags, size) + [byte for block in blocks for byte in block] + END

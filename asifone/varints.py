"""The bytes of numbers and words, and checksums."""

from asifone.words import unsigned

# What the register of a checksum becomes by four steps from each of the numbers from 0 to 15.
BY_HALF_BYTES = (
    0, 498536548, 997073096, 651767980, 1994146192, 1802195444, 1303535960, 1342533948,
    3988292384, 4027552580, 3604390888, 3412177804, 2607071920, 2262029012, 2685067896, 3183342108,
)


def number_bytes(n):
    """The list of the bytes of a number, in groups of seven bits."""
    result = []
    while n > 127:
        result.append((n & 127) + 128)
        n = n >> 7
    return result + [n]


def word_bytes(word):
    """The list of the four bytes of a word, the lowest first."""
    number = unsigned(word)
    return [(number >> shift) & 255 for shift in (0, 8, 16, 24)]


def checksum(data):
    """The checksum of a list of bytes."""
    bits = 4294967295
    for byte in data:
        bits = bits ^ byte
        # Four steps at once: what is shifted out at the right alone tells what is added.
        bits = (bits >> 4) ^ BY_HALF_BYTES[bits & 15]
        bits = (bits >> 4) ^ BY_HALF_BYTES[bits & 15]
    return bits ^ 4294967295

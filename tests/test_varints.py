import unittest
import zlib

from asifone.varints import checksum, number_bytes, word_bytes
from tests.support import GREATEST, LEAST, rng_of, some_word


class NumbersTest(unittest.TestCase):
    def test_examples(self):
        for n, wanted in (
            (0, [0]), (1, [1]), (127, [127]), (128, [128, 1]), (129, [129, 1]), (255, [255, 1]), (256, [128, 2]),
            (300, [172, 2]), (16383, [255, 127]), (16384, [128, 128, 1]), (4294967295, [255, 255, 255, 255, 15]),
        ):
            self.assertEqual(number_bytes(n), wanted)

    def test_powers_of_128(self):
        for k in range(1, 60):
            self.assertEqual(number_bytes(128 ** k - 1), [255] * (k - 1) + [127])
            self.assertEqual(number_bytes(128 ** k), [128] * k + [1])
            self.assertEqual(number_bytes(128 ** k + 1), [129] + [128] * (k - 1) + [1])

    def test_random_numbers(self):
        rng = rng_of(1)
        for _ in range(300):
            n = rng.randrange(1 << rng.randrange(1, 500))
            data = number_bytes(n)
            self.assertEqual(sum((byte & 127) * 128 ** k for k, byte in enumerate(data)), n)
            self.assertTrue(all(byte > 127 for byte in data[:-1]) and data[-1] < 128)
            self.assertEqual(len(data), max(1, (n.bit_length() + 6) // 7))


class WordsTest(unittest.TestCase):
    def test_examples(self):
        for word, wanted in (
            (0, [0, 0, 0, 0]), (1, [1, 0, 0, 0]), (-1, [255] * 4), (258, [2, 1, 0, 0]), (GREATEST, [255, 255, 255, 127]),
            (LEAST, [0, 0, 0, 128]), (-2, [254, 255, 255, 255]), (305419896, [120, 86, 52, 18]),
        ):
            self.assertEqual(word_bytes(word), wanted)

    def test_random_words(self):
        rng = rng_of(2)
        for _ in range(300):
            word = some_word(rng)
            self.assertEqual(word_bytes(word), list(word.to_bytes(4, "little", signed=True)))


class ChecksumTest(unittest.TestCase):
    def test_examples(self):
        self.assertEqual(checksum([]), 0)
        self.assertEqual(checksum(list(b"123456789")), 3421780262)
        self.assertEqual(checksum([79, 78, 82, 49, 0]), 0xce2feae7)

    def test_each_byte(self):
        for byte in range(256):
            self.assertEqual(checksum([byte]), zlib.crc32(bytes([byte])))

    def test_random_bytes(self):
        rng = rng_of(3)
        for _ in range(200):
            data = [rng.randrange(256) for _ in range(rng.randrange(60))]
            kept = list(data)
            self.assertEqual(checksum(data), zlib.crc32(bytes(data)))
            self.assertEqual(data, kept)

import unittest

from asifone.words import divided, is_word, mix, mixed, shifted, total, unsigned, wrap

SIZE = 4294967296
LEAST = -2147483648
GREATEST = 2147483647


def slow_mix(a, b):
    """The mix, written once more as the document says it."""
    if a < 0:
        a += SIZE
    if b < 0:
        b += SIZE
    t = ((a ^ ((b + 2654435769) % SIZE)) * 2246822507) % SIZE
    s = t ^ (t // 32768)
    result = s * 3266489909 % SIZE
    return result - SIZE if result > GREATEST else result


class WrapTest(unittest.TestCase):
    def test_words_stay(self):
        for n in (0, 1, -1, 12345, LEAST, GREATEST):
            self.assertEqual(wrap(n), n)

    def test_beyond_the_range(self):
        self.assertEqual(wrap(GREATEST + 1), LEAST)
        self.assertEqual(wrap(LEAST - 1), GREATEST)
        self.assertEqual(wrap(SIZE), 0)
        self.assertEqual(wrap(SIZE - 1), -1)
        self.assertEqual(wrap(-SIZE), 0)
        self.assertEqual(wrap(-SIZE - 5), -5)

    def test_far_beyond(self):
        self.assertEqual(wrap(7 + SIZE * 10 ** 40), 7)
        self.assertEqual(wrap(-7 - SIZE * 10 ** 40), -7)
        self.assertEqual(wrap(GREATEST * GREATEST), 1)
        self.assertEqual(wrap(LEAST * LEAST), 0)

    def test_always_a_word(self):
        for n in range(-5 * SIZE, 5 * SIZE, SIZE // 7 - 3):
            self.assertTrue(LEAST <= wrap(n) <= GREATEST)
            self.assertEqual((wrap(n) - n) % SIZE, 0)

    def test_unsigned(self):
        self.assertEqual(unsigned(0), 0)
        self.assertEqual(unsigned(-1), SIZE - 1)
        self.assertEqual(unsigned(LEAST), 2147483648)
        self.assertEqual(unsigned(GREATEST), GREATEST)
        self.assertEqual(unsigned(SIZE), 0)
        self.assertEqual(unsigned(-SIZE * 10 ** 30 - 2), SIZE - 2)

    def test_is_word(self):
        self.assertTrue(is_word(LEAST) and is_word(0) and is_word(GREATEST))
        self.assertFalse(is_word(LEAST - 1) or is_word(GREATEST + 1))


class TotalTest(unittest.TestCase):
    def test_total(self):
        self.assertEqual(total([]), 0)
        self.assertEqual(total([5]), 5)
        self.assertEqual(total([1, -2, 3]), 2)

    def test_total_is_reduced(self):
        self.assertEqual(total([GREATEST, 1]), LEAST)
        self.assertEqual(total([LEAST, -1]), GREATEST)
        self.assertEqual(total([GREATEST] * 4), -4)

    def test_order_and_grouping_do_not_count(self):
        words = [GREATEST, LEAST, 77, GREATEST, -5, LEAST, LEAST]
        self.assertEqual(total(words), total(words[::-1]))
        self.assertEqual(total(words), total([total(words[:3]), total(words[3:])]))

    def test_argument_stays(self):
        words = [3, 1, 2]
        total(words)
        self.assertEqual(words, [3, 1, 2])


class DividedTest(unittest.TestCase):
    def test_example(self):
        self.assertEqual(divided(-7, 1), -3)

    def test_by_one(self):
        for n in (0, 5, -5, LEAST, GREATEST):
            self.assertEqual(divided(n, 0), n)

    def test_rounds_half_up(self):
        rows = [(7, 1, 4), (1, 1, 1), (-1, 1, 0), (3, 2, 1), (2, 2, 1), (1, 2, 0)]
        rows += [(-2, 2, 0), (-3, 2, -1), (-6, 2, -1), (-7, 2, -2), (1000, 8, 4)]
        for n, k, result in rows:
            self.assertEqual(divided(n, k), result, (n, k))

    def test_the_sum_is_reduced_before_the_shift(self):
        self.assertEqual(divided(GREATEST, 1), -1073741824)
        self.assertEqual(divided(GREATEST - 1, 1), 1073741823)
        self.assertEqual(divided(GREATEST, 31), -1)
        self.assertEqual(divided(1073741824, 31), -1)

    def test_by_the_greatest(self):
        self.assertEqual(divided(1073741823, 31), 0)
        self.assertEqual(divided(-1073741824, 31), 0)
        self.assertEqual(divided(-1073741825, 31), -1)
        self.assertEqual(divided(LEAST, 31), -1)
        self.assertEqual(divided(LEAST, 1), -1073741824)

    def test_shifting_down(self):
        self.assertEqual(shifted(-7, 1), -4)
        self.assertEqual(shifted(-7, 0), -7)
        self.assertEqual(shifted(LEAST, 31), -1)
        self.assertEqual(shifted(GREATEST, 31), 0)

    def test_somewhat_beyond_the_limit(self):
        self.assertIsInstance(divided(5, 32), int)
        self.assertIsInstance(divided(5, -1), int)


class MixTest(unittest.TestCase):
    def test_known_results(self):
        self.assertEqual(mix(0, 0), -395424730)
        self.assertEqual(mix(1, 2), 1174505095)
        self.assertEqual(mix(-1, 0), 1710980072)
        self.assertEqual(mix(0, -1), -771197690)
        self.assertEqual(mix(LEAST, GREATEST), -771197690)
        self.assertEqual(mix(GREATEST, LEAST), 1710980072)
        self.assertEqual(mix(-1640531527, 0), 0)

    def test_against_the_document(self):
        words = [0, 1, 2, -1, -2, 31, 65536, 1640531527, -1640531527, LEAST, GREATEST, 987654321]
        for a in words:
            for b in words:
                self.assertEqual(mix(a, b), slow_mix(a, b), (a, b))
                self.assertTrue(LEAST <= mix(a, b) <= GREATEST)

    def test_mixed(self):
        self.assertEqual(mixed(5, [1, 2, 3]), 1288968990)
        self.assertEqual(mixed(7, [3, 0, 0, 0]), -750938357)
        self.assertEqual(mixed(5, [9]), mix(5, 9))
        self.assertEqual(mixed(5, [9, 8]), mix(mix(5, 9), 8))

    def test_empty_list(self):
        for seed in (0, -7, LEAST, GREATEST):
            self.assertEqual(mixed(seed, []), seed)

    def test_numbers_of_any_size(self):
        far = SIZE * 10 ** 20
        self.assertEqual(mixed(5, [SIZE + 1, 2 - far, 3 + far]), 1288968990)
        self.assertEqual(mixed(5, [-1]), mixed(5, [SIZE - 1]))
        self.assertEqual(mixed(5, [4294967295]), slow_mix(5, -1))

    def test_argument_stays(self):
        numbers = [SIZE + 1, -2]
        mixed(1, numbers)
        self.assertEqual(numbers, [SIZE + 1, -2])

import unittest

from asifone.rings import DualRing, WordRing
from asifone.words import divided, wrap

LEAST = -2147483648
GREATEST = 2147483647
WORDS = [0, 1, -1, 2, -7, 65536, 1000003, LEAST, GREATEST]
METHODS = ("zero", "one", "still", "plus", "minus", "times", "divided", "positive")


class RingsTest(unittest.TestCase):
    def test_methods_stand_in_the_classes(self):
        for ring in (WordRing, DualRing):
            for name in METHODS:
                self.assertIn(name, ring.__dict__)


class WordRingTest(unittest.TestCase):
    def setUp(self):
        self.ring = WordRing()

    def test_constants(self):
        self.assertEqual((self.ring.zero(), self.ring.one(), self.ring.still(-8)), (0, 1, -8))

    def test_sums_differences_products(self):
        for a in WORDS:
            for b in WORDS:
                self.assertEqual(self.ring.plus(a, b), wrap(a + b))
                self.assertEqual(self.ring.minus(a, b), wrap(a - b))
                self.assertEqual(self.ring.times(a, b), wrap(a * b))

    def test_reduced(self):
        self.assertEqual(self.ring.plus(GREATEST, 1), LEAST)
        self.assertEqual(self.ring.minus(LEAST, 1), GREATEST)
        self.assertEqual(self.ring.minus(0, LEAST), LEAST)
        self.assertEqual(self.ring.times(65536, 65536), 0)
        self.assertEqual(self.ring.times(LEAST, -1), LEAST)

    def test_divided(self):
        self.assertEqual(self.ring.divided(-7, 1), -3)
        for a in WORDS:
            for k in (0, 1, 8, 31):
                self.assertEqual(self.ring.divided(a, k), divided(a, k))

    def test_positive(self):
        self.assertIs(self.ring.positive(1), True)
        self.assertIs(self.ring.positive(0), False)
        self.assertIs(self.ring.positive(-1), False)


class DualRingTest(unittest.TestCase):
    def setUp(self):
        self.ring = DualRing()

    def test_constants(self):
        self.assertEqual(self.ring.zero(), (0, 0))
        self.assertEqual(self.ring.one(), (1, 0))
        self.assertEqual(self.ring.still(-8), (-8, 0))

    def test_examples(self):
        self.assertEqual(self.ring.plus((2, 3), (10, 20)), (12, 23))
        self.assertEqual(self.ring.minus((2, 3), (10, 20)), (-8, -17))
        self.assertEqual(self.ring.times((2, 3), (10, 20)), (20, 70))
        self.assertEqual(self.ring.divided((-7, 7), 1), (-3, 4))
        self.assertEqual(self.ring.divided((-7, 7), 0), (-7, 7))

    def test_reduced(self):
        self.assertEqual(self.ring.plus((GREATEST, LEAST), (1, -1)), (LEAST, GREATEST))
        self.assertEqual(self.ring.minus((LEAST, GREATEST), (1, -1)), (GREATEST, LEAST))
        self.assertEqual(self.ring.times((65536, 65536), (65536, 65536)), (0, 0))
        self.assertEqual(self.ring.times((1, GREATEST), (1, GREATEST)), (1, -2))
        self.assertEqual(self.ring.divided((GREATEST, LEAST), 31), (-1, -1))

    def test_words_that_do_not_move_compute_as_words(self):
        words = WordRing()
        for a in WORDS:
            for b in WORDS:
                for name in ("plus", "minus", "times"):
                    dual = getattr(self.ring, name)(self.ring.still(a), self.ring.still(b))
                    self.assertEqual(dual, (getattr(words, name)(a, b), 0))

    def test_positive_is_of_the_word(self):
        self.assertIs(self.ring.positive((1, -5)), True)
        self.assertIs(self.ring.positive((0, 5)), False)
        self.assertIs(self.ring.positive((-1, 5)), False)

    def test_arguments_stay_and_answers_are_tuples(self):
        a, b = (2, 3), (4, 5)
        for result in (self.ring.plus(a, b), self.ring.minus(a, b), self.ring.times(a, b), self.ring.divided(a, 1)):
            self.assertIsInstance(result, tuple)
        self.assertEqual((a, b), ((2, 3), (4, 5)))

import unittest

from asifone.nets import Net, Parameter
from asifone.rings import WordRing
from asifone.scenes import Scene, is_dropped, row_of
from asifone.words import mixed, unsigned


class SceneTest(unittest.TestCase):
    def test_fields(self):
        net = Net(1, 1, [], [("input",)])
        ring = WordRing()
        scene = Scene(net, ring, 7, [], ([1], [2]), 9)
        self.assertIs(scene.net, net)
        self.assertIs(scene.ring, ring)
        self.assertEqual((scene.seed, scene.cells, scene.sample, scene.spot), (7, [], ([1], [2]), 9))
        self.assertEqual(scene.computed, [])


class RowTest(unittest.TestCase):
    def setUp(self):
        self.net = Net(4, 1, [Parameter(rows, 2, ("same", 0)) for rows in (1, 3, 6)], [])
        self.sample = ([4, -1, -2147483648, 2147483647], [0])

    def test_rows(self):
        self.assertEqual([row_of(self.net, self.sample, 0, at) for at in range(4)], [0, 0, 0, 0])
        # 4294967295, 2147483648 and 2147483647 are the unsigned values of the last three.
        self.assertEqual([row_of(self.net, self.sample, 1, at) for at in range(4)], [1, 0, 2, 1])
        self.assertEqual([row_of(self.net, self.sample, 2, at) for at in range(4)], [4, 3, 2, 1])

    def test_arguments_stay(self):
        row_of(self.net, self.sample, 1, 1)
        self.assertEqual(self.sample, ([4, -1, -2147483648, 2147483647], [0]))


class DroppedTest(unittest.TestCase):
    def test_by_the_mix(self):
        for seed in (0, -5, 2147483647, -2147483648):
            for spot in (0, 1, 4294967296 + 1, 10 ** 30):
                for v in range(4):
                    for j in range(4):
                        word = unsigned(mixed(seed, [1, spot, v, j]))
                        for divisor in (2, 3, 4294967295):
                            self.assertIs(is_dropped(seed, spot, v, divisor, j), word % divisor == 0)

    def test_some_are_dropped_and_some_are_not(self):
        many = sum(is_dropped(1, spot, 2, 3, j) for spot in range(50) for j in range(12))
        self.assertTrue(150 < many < 250)

    def test_each_number_counts(self):
        def bits(seed, first, v, last):
            return [is_dropped(seed, first + at, v, 2, last) for at in range(64)]
        plain = bits(1, 0, 2, 3)
        for other in (bits(2, 0, 2, 3), bits(1, 1, 2, 3), bits(1, 0, 3, 3), bits(1, 0, 2, 4), bits(1, 0, 3, 2)):
            self.assertNotEqual(plain, other)

    def test_great_spots_are_reduced(self):
        self.assertEqual(
            [is_dropped(1, spot, 2, 2, 3) for spot in range(64)],
            [is_dropped(1, spot + 4294967296 * 10 ** 20, 2, 2, 3) for spot in range(64)],
        )

    def test_a_divisor_of_0_raises_no_error(self):
        self.assertIs(is_dropped(1, 2, 3, 0, 4), False)

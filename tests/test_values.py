import unittest

from asifone.nets import Net, Parameter
from asifone.rings import DualRing, WordRing
from asifone.scenes import Scene, is_dropped
from asifone.values import forward, value_of
from tests.slow import Slow
from tests.support import GREATEST, LEAST, rng_of, some_cells, some_net, some_sample

PARAMETERS = [(2, 3), (1, 2), (3, 2)]
CELLS = [[[1, 2, 3], [4, 5, 6]], [[10, 20]], [[1, -1], [2, -2], [3, -3]]]
# The values that stand before the node in question.
GIVEN = [[1, 2, 3, 4], [5, 6, 7, 8], [1, -2, 0, 4, -5, 6], [9]]


def scene_of(node, ring, cells=None, given=None, spot=0, seed=0):
    """A scene in which the node is the number 4 and the earlier nodes are computed."""
    parameters = [Parameter(rows, cols, ("same", 0)) for rows, cols in PARAMETERS]
    net = Net(3, 2, parameters, [("input",)] * 4 + [node])
    scene = Scene(net, ring, seed, CELLS if cells is None else cells, ([7, -1, 4], [8, 9]), spot)
    scene.computed = [list(value) for value in (GIVEN if given is None else given)]
    return scene


def value(node, **more):
    return value_of(scene_of(node, WordRing(), **more), 4)


class KindsTest(unittest.TestCase):
    def test_sample(self):
        self.assertEqual(value(("input",)), [7, -1, 4])
        self.assertEqual(value(("target",)), [8, 9])

    def test_lin(self):
        self.assertEqual(value(("lin", 0, 0)), [9, 12, 15, 19, 26, 33])
        self.assertEqual(value(("lin", 1, 3)), [90, 180])
        self.assertEqual(value(("lin", 1, 0)), [10, 20, 20, 40, 30, 60, 40, 80])

    def test_bias(self):
        self.assertEqual(value(("bias", 1, 0)), [11, 22, 13, 24])

    def test_embed(self):
        # The rows are 7, 4294967295 and 4, modulo 3.
        self.assertEqual(value(("embed", 2, 0, 3)), [2, -2, 1, -1, 2, -2])
        self.assertEqual(value(("embed", 2, 1, 1)), [1, -1])
        self.assertEqual(value(("embed", 0, 1, 2)), [4, 5, 6, 1, 2, 3])

    def test_mat(self):
        self.assertEqual(value(("mat", 2, 0, 1)), [19, 22, 43, 50])
        self.assertEqual(value(("mat", 2, 0, 2)), [9, -12, 12, 19, -26, 24])
        self.assertEqual(value(("mat", 1, 0, 3)), [9, 18, 27, 36])
        self.assertEqual(value(("mat", 4, 0, 1)), [70])

    def test_mat_turned(self):
        self.assertEqual(value(("matT", 2, 0, 1)), [17, 23, 39, 53])
        self.assertEqual(value(("matT", 2, 0, 2)), [-3, 8, 7, -5, 16, 9])
        self.assertEqual(value(("matT", 2, 2, 0)), [-3, -5, 8, 16, 7, 9])
        self.assertEqual(value(("matT", 4, 0, 0)), [30])

    def test_lower(self):
        self.assertEqual(value(("lower", 2, 0)), [1, 0, 3, 4])
        self.assertEqual(value(("lower", 3, 2)), [1, 0, 0, 4, -5, 0])
        self.assertEqual(value(("lower", 1, 0)), [1, 2, 3, 4])
        self.assertEqual(value(("lower", 4, 0)), [1, 0, 0, 0])

    def test_pairs(self):
        self.assertEqual(value(("add", 0, 1)), [6, 8, 10, 12])
        self.assertEqual(value(("sub", 0, 1)), [-4, -4, -4, -4])
        self.assertEqual(value(("mul", 0, 1)), [5, 12, 21, 32])
        self.assertEqual(value(("add", 0, 0)), [2, 4, 6, 8])
        self.assertEqual(value(("sub", 0, 0)), [0, 0, 0, 0])
        self.assertEqual(value(("mul", 0, 0)), [1, 4, 9, 16])

    def test_scale(self):
        self.assertEqual(value(("scale", -3, 2)), [-3, 6, 0, -12, 15, -18])

    def test_shift(self):
        self.assertEqual(value(("shift", 0, 2)), [1, -2, 0, 4, -5, 6])
        self.assertEqual(value(("shift", 1, 2)), [1, -1, 0, 2, -2, 3])
        self.assertEqual(value(("shift", 31, 3), given=[[0], [0], [0], [GREATEST]]), [-1])

    def test_relu(self):
        self.assertEqual(value(("relu", 2)), [1, 0, 0, 4, 0, 6])

    def test_drop(self):
        for spot in range(20):
            kept = [0 if is_dropped(5, spot, 4, 2, j) else word for j, word in enumerate(GIVEN[1])]
            self.assertEqual(value(("drop", 2, 1), spot=spot, seed=5), kept)

    def test_drop_drops_some(self):
        rows = [value(("drop", 2, 1), spot=spot, seed=5) for spot in range(20)]
        self.assertTrue(any(0 in row and row != [0, 0, 0, 0] for row in rows))

    def test_sum_join_take(self):
        self.assertEqual(value(("sum", 2)), [4])
        self.assertEqual(value(("join", 0, 3)), [1, 2, 3, 4, 9])
        self.assertEqual(value(("join", 3, 3)), [9, 9])
        self.assertEqual(value(("take", 1, 2, 0)), [2, 3])
        self.assertEqual(value(("take", 3, 1, 0)), [4])

    def test_reduced(self):
        far = [[GREATEST, LEAST], [1, -1], [0], [0]]
        self.assertEqual(value(("add", 0, 1), given=far), [LEAST, GREATEST])
        self.assertEqual(value(("sub", 1, 0), given=far), [-2147483646, GREATEST])
        self.assertEqual(value(("mul", 0, 0), given=far), [1, 0])
        self.assertEqual(value(("scale", LEAST, 0), given=far), [LEAST, 0])
        self.assertEqual(value(("sum", 0), given=[[GREATEST, GREATEST, 3], [0], [0], [0]]), [1])

    def test_dual_numbers(self):
        given = [[(1, 2), (-3, 4)], [(5, -6), (7, 8)], [(0, 9)], [(0, 0)]]
        cells = [[[(1, 1), (2, 0), (3, 0)], [(4, 0), (5, 0), (6, 1)]], [[(10, 1), (20, 2)]], []]

        def dual(node):
            return value_of(scene_of(node, DualRing(), cells=cells, given=given), 4)

        self.assertEqual(dual(("input",)), [(7, 0), (-1, 0), (4, 0)])
        self.assertEqual(dual(("target",)), [(8, 0), (9, 0)])
        self.assertEqual(dual(("lin", 0, 0)), [(-11, 19), (-13, 24), (-15, 27)])
        self.assertEqual(dual(("bias", 1, 0)), [(11, 3), (17, 6)])
        self.assertEqual(dual(("embed", 0, 2, 1)), [(1, 1), (2, 0), (3, 0)])
        self.assertEqual(dual(("mul", 0, 1)), [(5, 4), (-21, 4)])
        self.assertEqual(dual(("scale", -2, 0)), [(-2, -4), (6, -8)])
        self.assertEqual(dual(("shift", 1, 0)), [(1, 1), (-1, 2)])
        self.assertEqual(dual(("relu", 0)), [(1, 2), (0, 0)])
        self.assertEqual(dual(("relu", 2)), [(0, 0)])
        self.assertEqual(dual(("lower", 2, 0)), [(1, 2), (0, 0)])
        self.assertEqual(dual(("matT", 2, 0, 1)), [(-16, 8)])
        self.assertEqual(dual(("sum", 1)), [(12, 2)])


class ForwardTest(unittest.TestCase):
    def test_example(self):
        nodes = [("input",), ("lin", 0, 0), ("bias", 1, 1), ("target",), ("sub", 2, 3), ("mul", 4, 4), ("sum", 5)]
        net = Net(2, 1, [Parameter(2, 1, ("same", 0)), Parameter(1, 1, ("same", 0))], nodes)
        scene = Scene(net, WordRing(), 0, [[[3], [4]], [[5]]], ([1, 2], [6]), 0)
        values = [[1, 2], [11], [16], [6], [10], [100], [100]]
        self.assertEqual(forward(scene), values)
        self.assertEqual(scene.computed, values)

    def test_random_networks_against_the_table(self):
        seen = set()
        for seed in range(250):
            rng = rng_of(seed)
            net = some_net(rng)
            seen.update(node[0] for node in net.nodes)
            cells, sample = some_cells(rng, net), some_sample(rng, net)
            pairs = some_cells(rng, net)
            moving = [[list(zip(*rows)) for rows in zip(*both)] for both in zip(cells, pairs)]
            for ring, told in ((WordRing(), cells), (DualRing(), moving)):
                scene = Scene(net, ring, seed, told, sample, rng.randrange(1000))
                values = forward(scene)
                slow = Slow(scene)
                self.assertEqual(values, [slow.value(v) for v in range(len(net.nodes))])
                self.assertEqual([len(one) for one in values], net.lengths)
        self.assertEqual(len(seen), 18)

    def test_twice(self):
        rng = rng_of(3)
        net = some_net(rng)
        scene = Scene(net, WordRing(), 3, some_cells(rng, net), some_sample(rng, net), 5)
        first = forward(scene)
        self.assertEqual(forward(scene), first)
        self.assertEqual(len(scene.computed), len(net.nodes))

    def test_arguments_stay_and_answers_are_new(self):
        rng = rng_of(8)
        net = some_net(rng)
        cells, sample = some_cells(rng, net), some_sample(rng, net)
        before = repr((cells, sample, net.nodes))
        scene = Scene(net, WordRing(), 3, cells, sample, 5)
        values = forward(scene)
        kept = repr(values)
        for one in values:
            one[0] = 12345
        values.append([1])
        self.assertEqual(repr(scene.computed), kept)
        for v in range(len(net.nodes)):
            value_of(scene, v).append(12345)
        self.assertEqual(repr(scene.computed), kept)
        self.assertEqual(repr(forward(scene)), kept)
        self.assertEqual(repr((cells, sample, net.nodes)), before)

import unittest

from asifone.adds import backward
from asifone.nets import Net, Parameter
from asifone.rings import DualRing, WordRing
from asifone.scenes import Scene, is_dropped
from asifone.values import forward
from tests.slow import Slow
from tests.support import KINDS, rng_of, some_cells, some_net, some_sample

PARAMETERS = [Parameter(rows, cols, ("same", 0)) for rows, cols in ((2, 2), (1, 2), (3, 1))]
CELLS = [[[1, 2], [3, 4]], [[10, 20]], [[5], [6], [7]]]


def adjoints_and_gradients(nodes, sample, spot=0, seed=0):
    net = Net(len(sample[0]), len(sample[1]), PARAMETERS, nodes)
    scene = Scene(net, WordRing(), seed, CELLS, sample, spot)
    forward(scene)
    return backward(scene)


def through(node, given=(1, 2, 3, 4), weights=(2, -3, 5, 7, 11, 13), **more):
    """The adjoint of the input and the gradients where the node 1 has the weights as its adjoint."""
    net = Net(len(given), 1, PARAMETERS, [("input",), node])
    many = net.lengths[1]
    # The target has the weights, so that the loss is the sum of their products with the node.
    nodes = [("input",), node, ("target",), ("mul", 1, 2), ("sum", 3)]
    adjoints, gradients = adjoints_and_gradients(nodes, (list(given), list(weights[:many])), **more)
    assert adjoints[1] == list(weights[:many])
    return adjoints[0], gradients


class KindsTest(unittest.TestCase):
    def test_last_node_starts_with_1(self):
        adjoints, gradients = adjoints_and_gradients([("input",)], ([5], [0]))
        self.assertEqual(adjoints, [[1]])
        self.assertEqual(gradients, [[[0, 0], [0, 0]], [[0, 0]], [[0], [0], [0]]])

    def test_nodes_that_are_not_used(self):
        adjoints, _ = adjoints_and_gradients([("input",), ("target",), ("relu", 0), ("sum", 1)], ([5, 6], [1, 2]))
        self.assertEqual(adjoints, [[0, 0], [1, 1], [0, 0], [1]])

    def test_lin(self):
        adjoint, gradients = through(("lin", 0, 0))
        self.assertEqual(adjoint, [-4, -6, 19, 43])
        self.assertEqual(gradients[0], [[1 * 2 + 3 * 5, 1 * -3 + 3 * 7], [2 * 2 + 4 * 5, 2 * -3 + 4 * 7]])
        self.assertEqual(gradients[1:], [[[0, 0]], [[0], [0], [0]]])

    def test_bias(self):
        adjoint, gradients = through(("bias", 1, 0))
        self.assertEqual(adjoint, [2, -3, 5, 7])
        self.assertEqual(gradients[1], [[7, 4]])

    def test_embed(self):
        adjoint, gradients = through(("embed", 2, 0, 4))
        self.assertEqual(adjoint, [0, 0, 0, 0])
        # The rows are 1, 2, 0, 1.
        self.assertEqual(gradients[2], [[5], [2 + 7], [-3]])

    def test_mat(self):
        nodes = [("input",), ("take", 0, 2, 0), ("take", 2, 2, 0), ("mat", 1, 1, 2), ("target",), ("mul", 3, 4),
                 ("sum", 5)]
        adjoints, _ = adjoints_and_gradients(nodes, ([1, 2, 3, 4], [2, -3, 5, 7]))
        self.assertEqual(adjoints[1], [2 * 3 - 3 * 4, 5 * 3 + 7 * 4])
        self.assertEqual(adjoints[2], [1 * 2 + 2 * 5, 1 * -3 + 2 * 7])

    def test_mat_with_one_operand_twice(self):
        # The square of ((1, 2), (3, 4)), and the product with its transpose.
        self.assertEqual(through(("mat", 2, 0, 0))[0], [-4 + 17, -6 + 18, 19 + 24, 43 + 22])
        self.assertEqual(through(("matT", 2, 0, 0))[0], [-7 + 17, -8 + 24, 26 + 18, 38 + 22])

    def test_lower(self):
        self.assertEqual(through(("lower", 2, 0))[0], [2, 0, 5, 7])
        self.assertEqual(through(("lower", 4, 0))[0], [2, 0, 0, 0])

    def test_pairs(self):
        nodes = [("input",), ("take", 0, 2, 0), ("take", 2, 2, 0), None, ("target",), ("mul", 3, 4), ("sum", 5)]
        results = {"add": ([2, -3], [2, -3]), "sub": ([2, -3], [-2, 3]), "mul": ([6, -12], [2, -6])}
        for kind, (first, second) in results.items():
            nodes[3] = (kind, 1, 2)
            adjoints, _ = adjoints_and_gradients(nodes, ([1, 2, 3, 4], [2, -3]))
            self.assertEqual((adjoints[1], adjoints[2]), (first, second), kind)

    def test_pairs_with_one_operand_twice(self):
        self.assertEqual(through(("add", 0, 0))[0], [4, -6, 10, 14])
        self.assertEqual(through(("sub", 0, 0))[0], [0, 0, 0, 0])
        self.assertEqual(through(("mul", 0, 0))[0], [4, -12, 30, 56])
        self.assertEqual(through(("join", 0, 0), given=(1, 2, 3))[0], [2 + 7, -3 + 11, 5 + 13])

    def test_scale(self):
        self.assertEqual(through(("scale", -3, 0))[0], [-6, 9, -15, -21])

    def test_shift(self):
        self.assertEqual(through(("shift", 1, 0))[0], [1, -1, 3, 4])
        self.assertEqual(through(("shift", 0, 0))[0], [2, -3, 5, 7])

    def test_relu(self):
        self.assertEqual(through(("relu", 0), given=(1, 0, -1, 5))[0], [2, 0, 0, 7])

    def test_drop(self):
        mixed = 0
        for spot in range(20):
            kept = [0 if is_dropped(6, spot, 1, 2, j) else word for j, word in enumerate((2, -3, 5, 7))]
            mixed += 0 < kept.count(0) < 4
            self.assertEqual(through(("drop", 2, 0), spot=spot, seed=6)[0], kept)
        self.assertGreater(mixed, 0)

    def test_sum_and_take(self):
        self.assertEqual(through(("sum", 0))[0], [2, 2, 2, 2])
        self.assertEqual(through(("take", 1, 2, 0))[0], [0, 2, -3, 0])
        self.assertEqual(through(("take", 0, 4, 0))[0], [2, -3, 5, 7])

    def test_join(self):
        nodes = [("input",), ("take", 0, 1, 0), ("join", 1, 0), ("target",), ("mul", 2, 3), ("sum", 4)]
        adjoints, _ = adjoints_and_gradients(nodes, ([1, 2], [2, -3, 5]))
        self.assertEqual(adjoints[:2], [[2 - 3, 5], [2]])

    def test_one_parameter_in_two_nodes(self):
        nodes = [("input",), ("lin", 0, 0), ("lin", 0, 1), ("sum", 2)]
        _, gradients = adjoints_and_gradients(nodes, ([1, 2], [0]))
        # The sum of x * p * p, where x * p is (7, 10).
        self.assertEqual(gradients[0], [[7 + 3, 7 + 7], [10 + 6, 10 + 14]])


class BackwardTest(unittest.TestCase):
    def test_random_networks_against_the_table(self):
        for seed in range(250):
            rng = rng_of(1000 + seed)
            net = some_net(rng)
            cells, sample = some_cells(rng, net), some_sample(rng, net)
            pairs = some_cells(rng, net)
            moving = [[list(zip(*rows)) for rows in zip(*both)] for both in zip(cells, pairs)]
            for ring, told in ((WordRing(), cells), (DualRing(), moving)):
                scene = Scene(net, ring, seed, told, sample, rng.randrange(1000))
                forward(scene)
                self.assertEqual(backward(scene), Slow(scene).backward())

    def test_slopes_are_products_with_gradients(self):
        # [35]: without shift nodes, the slope of the loss is the product of gradients and direction.
        kinds = [kind for kind in KINDS if kind != "shift"]
        different = 0
        for seed in range(150):
            rng = rng_of(seed)
            net = some_net(rng, kinds)
            cells, direction, sample = some_cells(rng, net), some_cells(rng, net), some_sample(rng, net)
            moving = [[list(zip(*rows)) for rows in zip(*both)] for both in zip(cells, direction)]
            dual = Scene(net, DualRing(), seed, moving, sample, seed)
            slope = forward(dual)[-1][0][1]
            plain = Scene(net, WordRing(), seed, cells, sample, seed)
            forward(plain)
            _, gradients = backward(plain)
            product = sum(g * d for one, other in zip(gradients, direction)
                          for row, line in zip(one, other) for g, d in zip(row, line))
            self.assertEqual((slope - product) % 4294967296, 0, seed)
            different += slope != 0
            # With dual numbers the gradients are the same words, beside their curvatures.
            _, both = backward(dual)
            self.assertEqual([[[pair[0] for pair in row] for row in one] for one in both], gradients)
        self.assertGreater(different, 50)

    def test_answers_are_a_pair_and_new(self):
        rng = rng_of(17)
        net = some_net(rng)
        cells, sample = some_cells(rng, net), some_sample(rng, net)
        before = repr((cells, sample, net.nodes))
        scene = Scene(net, WordRing(), 3, cells, sample, 5)
        forward(scene)
        computed = repr(scene.computed)
        answer = backward(scene)
        self.assertIsInstance(answer, tuple)
        kept = repr(answer)
        for one in answer[0]:
            one[0] = 12345
        for matrix in answer[1]:
            matrix[0][0] = 12345
        self.assertEqual(repr(backward(scene)), kept)
        self.assertEqual(repr(scene.computed), computed)
        self.assertEqual(repr((cells, sample, net.nodes)), before)

import unittest

from asifone.feed import sample_at
from asifone.jobs import Job
from asifone.nets import Net, Parameter
from asifone.process import gradients_of, loss_with, values_of
from asifone.rings import DualRing
from asifone.scenes import Scene
from asifone.slopes import curvature, moved, product, roundings, slope
from tests.slow import Slow, rounded, word
from tests.support import GREATEST, KINDS, LEAST, live_job, rng_of, some_cells, told

SMOOTH = [kind for kind in KINDS if kind != "shift"]
SHIFTED = ("lin", "bias", "embed", "mat", "mul", "join", "shift", "shift")
ONE_CELL = [Parameter(1, 1, ("same", 0))]


def job_with(nodes, xs=(3,), parameters=ONE_CELL, batch=1):
    return Job(Net(len(xs), 1, parameters, nodes), 0, batch, 0, 0, [], [(list(xs), [0])])


def slow_product(one, other):
    return word(sum(a * b for matrix, rows in zip(one, other) for row, line in zip(matrix, rows)
                    for a, b in zip(row, line)))


def slow_dual(job, cells, direction, step, t):
    """The values, adjoints and gradients with dual numbers."""
    spot = step * job.batch + t
    pairs = [[list(zip(*rows)) for rows in zip(*both)] for both in zip(cells, direction)]
    scene = Scene(job.net, DualRing(), job.seed, pairs, job.data[sample_at(job, spot)], spot)
    slow = Slow(scene)
    for v in range(len(job.net.nodes)):
        scene.computed.append(slow.value(v))
    return scene.computed, *slow.backward()


def some_case(seed, kinds=KINDS):
    rng = rng_of(seed)
    job = live_job(rng, kinds)
    return job, some_cells(rng, job.net), some_cells(rng, job.net), rng.choice([0, 3, 10 ** 30]), rng.randrange(job.batch)


class CellsTest(unittest.TestCase):
    def test_moved(self):
        cells, direction = [[[1, -2]], [[GREATEST], [0]]], [[[10, 20]], [[1], [-7]]]
        self.assertEqual(moved(cells, direction, 3), [[[31, 58]], [[LEAST + 2], [-21]]])
        self.assertEqual(moved(cells, direction, 0), cells)
        self.assertEqual(moved(cells, direction, -1), [[[-9, -22]], [[GREATEST - 1], [7]]])
        self.assertEqual(moved([[[1]]], [[[LEAST]]], LEAST), [[[1]]])
        self.assertEqual(moved([], [], 5), [])

    def test_product(self):
        self.assertEqual(product([[[1, -2]], [[3], [4]]], [[[10, 20]], [[5], [-7]]]), 10 - 40 + 15 - 28)
        self.assertEqual(product([[[GREATEST]], [[1]]], [[[2]], [[5]]]), 3)
        self.assertEqual(product([[[LEAST]]], [[[1]]]), LEAST)
        self.assertEqual(product([], []), 0)

    def test_arguments_stay(self):
        cells, direction = [[[1, -2]]], [[[10, 20]]]
        moved(cells, direction, 3)[0][0][0] = 99
        moved(cells, direction, 0)[0][0][0] = 99
        product(cells, direction)
        self.assertEqual((cells, direction), ([[[1, -2]]], [[[10, 20]]]))


class SquareTest(unittest.TestCase):
    # The loss is (w * 3) ** 2.
    job = job_with([("input",), ("lin", 0, 0), ("mul", 1, 1)])

    def test_slope(self):
        self.assertEqual(slope(self.job, [[[5]]], [[[2]]], 0, 0), 9 * 2 * 5 * 2)
        self.assertEqual(slope(self.job, [[[5]]], [[[0]]], 0, 0), 0)

    def test_curvature(self):
        self.assertEqual(curvature(self.job, [[[5]]], [[[2]]], 0, 0), [[[9 * 2 * 2]]])

    def test_roundings(self):
        self.assertEqual(roundings(self.job, [[[5]]], [[[2]]], 0, 0), 0)


class SampleTest(unittest.TestCase):
    def test_the_sample_of_the_batch(self):
        net = Net(1, 1, ONE_CELL, [("input",), ("lin", 0, 0), ("mul", 1, 1)])
        job = Job(net, 3, 2, 0, 0, [], [([x], [0]) for x in (1, 2, 3)])
        for step in range(4):
            for t in range(2):
                x = sample_at(job, 2 * step + t) + 1
                self.assertEqual(slope(job, [[[5]]], [[[1]]], step, t), 10 * x * x)
                self.assertEqual(curvature(job, [[[5]]], [[[1]]], step, t), [[[2 * x * x]]])


class RoundingTest(unittest.TestCase):
    # The loss is the square of w * x, shifted.
    def job(self, k, x):
        return job_with([("input",), ("lin", 0, 0), ("shift", k, 1), ("mul", 2, 2)], (x,))

    def test_one_shift_node(self):
        # x * w is 35, shifted 9: the adjoint of the shift node is 18; s is 14.
        job = self.job(2, 7)
        self.assertEqual(slope(job, [[[5]]], [[[2]]], 0, 0), 2 * 9 * 4)
        self.assertEqual(gradients_of(job, [[[5]]], 0, 0), [[[5 * 7]]])
        self.assertEqual(roundings(job, [[[5]]], [[[2]]], 0, 0), 18 * 4 - 5 * 14)

    def test_shift_by_0(self):
        self.assertEqual(roundings(self.job(0, 7), [[[5]]], [[[2]]], 0, 0), 0)

    def test_several_elements_and_nodes(self):
        nodes = [("input",), ("lin", 0, 0), ("shift", 1, 1), ("scale", 3, 2), ("shift", 2, 3), ("sum", 4)]
        job = job_with(nodes, (5, -6, 7))
        # w is 1, the direction 1. The slopes are (5, -6, 7), then (3, -3, 4), (9, -9, 12), (2, -2, 3).
        # The adjoints are 1, then R(1) is 0: the later shift adds each slope's R, the first one nothing.
        self.assertEqual(roundings(job, [[[1]]], [[[1]]], 0, 0), 2 - 2 + 3)
        self.assertEqual(slope(job, [[[1]]], [[[1]]], 0, 0), 3)
        self.assertEqual(gradients_of(job, [[[1]]], 0, 0), [[[0]]])

    def test_slope_is_product_and_roundings(self):
        different = 0
        for seed in range(150):
            job, cells, direction, step, t = some_case(seed, (KINDS, SHIFTED)[seed % 2])
            more = roundings(job, cells, direction, step, t)
            whole = word(product(gradients_of(job, cells, step, t), direction) + more)
            self.assertEqual(slope(job, cells, direction, step, t), whole)
            different += more != 0
        self.assertGreater(different, 20)

    def test_against_the_document(self):
        for seed in range(100):
            job, cells, direction, step, t = some_case(seed, (KINDS, SHIFTED)[seed % 2])
            values, adjoints, _ = slow_dual(job, cells, direction, step, t)
            wanted = 0
            for v, node in enumerate(job.net.nodes):
                if node[0] == "shift":
                    for j, (d, _) in enumerate(adjoints[v]):
                        s = values[node[2]][j][1]
                        wanted += d * rounded(s, node[1]) - rounded(d, node[1]) * s
            self.assertEqual(roundings(job, cells, direction, step, t), word(wanted))

    def test_none_without_shift_nodes(self):
        for seed in range(30):
            job, cells, direction, step, t = some_case(seed, SMOOTH)
            self.assertEqual(roundings(job, cells, direction, step, t), 0)


class SlopeTest(unittest.TestCase):
    def test_against_the_document(self):
        for seed in range(100):
            job, cells, direction, step, t = some_case(seed)
            values, _, gradients = slow_dual(job, cells, direction, step, t)
            self.assertEqual(slope(job, cells, direction, step, t), values[-1][0][1])
            wanted = [[[pair[1] for pair in row] for row in one] for one in gradients]
            self.assertEqual(curvature(job, cells, direction, step, t), wanted)

    def test_curvatures_are_symmetric(self):
        different = 0
        for seed in range(150):
            job, cells, one, step, t = some_case(seed, SMOOTH)
            other = some_cells(rng_of(5000 + seed), job.net)
            left = slow_product(curvature(job, cells, one, step, t), other)
            self.assertEqual(left, slow_product(curvature(job, cells, other, step, t), one))
            different += left != 0
        self.assertGreater(different, 20)

    def test_linear_in_the_direction(self):
        for seed in range(80):
            job, cells, one, step, t = some_case(seed, SMOOTH)
            other = some_cells(rng_of(5000 + seed), job.net)
            both = moved(one, other, 3)
            self.assertEqual(slope(job, cells, both, step, t),
                             word(slope(job, cells, one, step, t) + 3 * slope(job, cells, other, step, t)))
            self.assertEqual(
                curvature(job, cells, both, step, t),
                moved(curvature(job, cells, one, step, t), curvature(job, cells, other, step, t), 3))

    def test_moves(self):
        kinds = [kind for kind in SMOOTH if kind != "relu"]
        different = 0
        for seed in range(100):
            job, cells, direction, step, t = some_case(seed, kinds)
            for by in (65536, -65536, 65536 * 12345, LEAST):
                there = moved(cells, direction, by)
                loss = values_of(job, cells, step, t)[-1][0]
                along = slope(job, cells, direction, step, t)
                self.assertEqual(values_of(job, there, step, t)[-1][0], word(loss + by * along))
                bent = curvature(job, cells, direction, step, t)
                self.assertEqual(gradients_of(job, there, step, t), moved(gradients_of(job, cells, step, t), bent, by))
                different += along != 0
        self.assertGreater(different, 50)

    def test_relu_by_the_word(self):
        job = job_with([("input",), ("lin", 0, 0), ("relu", 1), ("mul", 2, 2)], (1,))
        self.assertEqual(slope(job, [[[0]]], [[[5]]], 0, 0), 0)
        self.assertEqual(slope(job, [[[-1]]], [[[5]]], 0, 0), 0)
        self.assertEqual(slope(job, [[[1]]], [[[5]]], 0, 0), 10)
        self.assertEqual(curvature(job, [[[0]]], [[[5]]], 0, 0), [[[0]]])
        self.assertEqual(curvature(job, [[[1]]], [[[5]]], 0, 0), [[[10]]])

    def test_batch_of_slopes(self):
        job, cells, direction, _, _ = some_case(3, [kind for kind in SMOOTH if kind != "relu"])
        along = sum(slope(job, cells, direction, 7, t) for t in range(job.batch))
        there = moved(cells, direction, 65536)
        self.assertEqual(loss_with(job, there, 7), word(loss_with(job, cells, 7) + 65536 * along))

    def test_without_parameters(self):
        job = job_with([("input",), ("shift", 1, 0), ("sum", 1)], parameters=[])
        self.assertEqual((slope(job, [], [], 0, 0), curvature(job, [], [], 0, 0), roundings(job, [], [], 0, 0)),
                         (0, [], 0))


class ArgumentsTest(unittest.TestCase):
    def test_arguments_stay_and_answers_are_new(self):
        for seed in range(20):
            job, cells, direction, step, t = some_case(seed)
            before = repr((told(job), cells, direction))
            slope(job, cells, direction, step, t)
            roundings(job, cells, direction, step, t)
            kept = repr(curvature(job, cells, direction, step, t))
            for matrix in curvature(job, cells, direction, step, t):
                matrix[0][0] = 99
            self.assertEqual(repr(curvature(job, cells, direction, step, t)), kept)
            self.assertEqual(repr((told(job), cells, direction)), before)

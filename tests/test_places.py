import unittest

from asifone.layouts import Layout
from asifone.places import (
    block_of, cells_of, copy_of, homes, loss_rank, ranks_of_element, stage_of, updaters, user_of, ways_of_cell,
    ways_of_element,
)
from asifone.texts import job_of
from tests.support import WHOLE, live_job, rng_of, some_layout, told, told_layout

# It has 24 nodes and batches of three samples.
JOB = job_of(WHOLE)
# All operands of the lin node are cut in the one, and not in the other.
CUT, UNCUT = [True] * 24, [False] * 24


def layout(copies=1, stages=(), ways=1, cut=UNCUT, spread=False):
    return Layout(copies, list(stages), ways, list(cut), spread, False)


def cut_but(*nodes):
    return [v not in nodes for v in range(24)]


class SamplesTest(unittest.TestCase):
    def test_blocks(self):
        for copies, blocks in ((1, [(0, 3)]), (2, [(0, 1), (1, 3)]), (3, [(0, 1), (1, 2), (2, 3)]),
                               (4, [(0, 0), (0, 1), (1, 2), (2, 3)])):
            one = layout(copies)
            self.assertEqual([block_of(JOB, one, copy) for copy in range(copies)], blocks)
            for t in range(3):
                lo, hi = block_of(JOB, one, copy_of(JOB, one, t))
                self.assertTrue(lo <= t < hi)
        self.assertEqual([copy_of(JOB, layout(2), t) for t in range(3)], [0, 1, 1])
        self.assertIsInstance(block_of(JOB, layout(2), 0), tuple)


class StagesTest(unittest.TestCase):
    def test_stages(self):
        self.assertEqual([stage_of(layout(), v) for v in (0, 5, 23)], [0, 0, 0])
        one = layout(stages=[3, 4, 9])
        self.assertEqual([stage_of(one, v) for v in range(12)], [0, 0, 0, 1, 2, 2, 2, 2, 2, 3, 3, 3])

    def test_loss_ranks(self):
        one = layout(2, [3, 23], 2)
        self.assertEqual([loss_rank(JOB, one, copy) for copy in range(2)], [4, 10])
        self.assertEqual([loss_rank(JOB, layout(3), copy) for copy in range(3)], [0, 1, 2])
        # The way 0, also where the last node is cut and lies in another way.
        self.assertEqual(loss_rank(JOB, layout(1, [], 3, CUT), 0), 0)
        self.assertEqual(ways_of_element(JOB, layout(1, [], 3, CUT), 23, 0), [2])


class ElementsTest(unittest.TestCase):
    def ways(self, v, ways):
        one = layout(ways=ways, cut=CUT)
        return [ways_of_element(JOB, one, v, j) for j in range(JOB.net.lengths[v])]

    def test_not_cut(self):
        one = layout(ways=3, cut=cut_but(4))
        self.assertEqual([ways_of_element(JOB, one, 4, j) for j in range(9)], [[0, 1, 2]] * 9)
        self.assertEqual(ways_of_element(JOB, one, 6, 4), [1])

    def test_by_the_row_length(self):
        # lin, bias: rows of 3; embed: rows of 2.
        self.assertEqual(self.ways(1, 3), [[0], [1], [2]] * 2)
        self.assertEqual(self.ways(2, 3), [[0], [1], [2]] * 2)
        self.assertEqual(self.ways(3, 2), [[0], [1]] * 3)
        # mat with rows of 3, matT with rows of 2, lower with rows of 3.
        self.assertEqual(self.ways(4, 3), [[0], [1], [2]] * 3)
        self.assertEqual(self.ways(5, 2), [[0], [1]] * 2)
        self.assertEqual(self.ways(6, 3), [[0], [1], [2]] * 3)
        # shift, relu, drop, scale, sub, add and mul have the rows of their first operand, which comes from lower.
        for v in range(7, 14):
            self.assertEqual(self.ways(v, 3), [[0], [1], [2]] * 3, v)
        # input, join, take and target have one row.
        self.assertEqual(self.ways(0, 2), [[0], [0], [1], [1]])
        self.assertEqual(self.ways(14, 2), [[0]] * 4 + [[1]] * 4)
        self.assertEqual(self.ways(15, 3), [[0], [1], [2]])
        self.assertEqual(self.ways(16, 2), [[0], [1]])

    def test_rows_that_no_number_of_ways_divides(self):
        self.assertEqual(self.ways(1, 2), [[0], [1], [1]] * 2)
        self.assertEqual(self.ways(1, 4), [[1], [2], [3]] * 2)
        self.assertEqual(self.ways(17, 2), [[0], [0], [1], [1], [1]])
        self.assertEqual(self.ways(17, 3), [[0], [1], [1], [2], [2]])
        self.assertEqual(self.ways(17, 4), [[0], [1], [2], [3], [3]])
        self.assertEqual(self.ways(20, 4), [[3]])

    def test_ranks(self):
        one = layout(2, [3, 9], 3, cut_but(4))
        self.assertEqual(ranks_of_element(JOB, one, 0, 1, 4), [1])
        self.assertEqual(ranks_of_element(JOB, one, 1, 1, 4), [9 + 1])
        self.assertEqual(ranks_of_element(JOB, one, 2, 4, 4), [9 + 3, 9 + 4, 9 + 5])
        self.assertEqual(ranks_of_element(JOB, one, 0, 9, 8), [6 + 2])


class CellsTest(unittest.TestCase):
    def test_cells(self):
        self.assertEqual(cells_of(JOB.net), [
            (0, 0, 0), (0, 0, 1), (0, 0, 2), (0, 1, 0), (0, 1, 1), (0, 1, 2), (1, 0, 0), (1, 0, 1), (1, 0, 2),
            (2, 0, 0), (2, 0, 1), (2, 1, 0), (2, 1, 1), (2, 2, 0), (2, 2, 1)])
        self.assertEqual(cells_of(job_of("input 1\ntarget 1\nloss sum(input)\nsample 1 | 1").net), [])

    def test_users(self):
        self.assertEqual([user_of(JOB.net, p) for p in range(3)], [1, 2, 3])
        job = job_of("input 2\ntarget 1\nparam p 1 2 same 0\nparam q 1 2 same 0\nparam r 1 2 same 0\nn0 = input\n"
                     "n1 = n0 + q\nn2 = n1 + p\nn3 = n2 + q\nloss sum(n3)\nsample 1 2 | 1")
        self.assertEqual([user_of(job.net, p) for p in range(3)], [2, 1, 0])

    def ways(self, p, one):
        parameter = JOB.net.parameters[p]
        return [[ways_of_cell(JOB, one, p, i, j) for j in range(parameter.cols)] for i in range(parameter.rows)]

    def test_lin_with_a_cut_operand(self):
        # By the rows of the parameter.
        self.assertEqual(self.ways(0, layout(ways=2, cut=CUT)), [[[0]] * 3, [[1]] * 3])
        self.assertEqual(self.ways(0, layout(ways=3, cut=cut_but(1))), [[[1]] * 3, [[2]] * 3])

    def test_lin_with_an_operand_that_is_not_cut(self):
        # By the elements of the node, in its rows of 3.
        self.assertEqual(self.ways(0, layout(ways=2, cut=cut_but(0))), [[[0], [1], [1]]] * 2)
        self.assertEqual(self.ways(0, layout(ways=2, cut=cut_but(0, 1))), [[[0, 1]] * 3] * 2)

    def test_bias_and_embed(self):
        self.assertEqual(self.ways(1, layout(ways=3, cut=CUT)), [[[0], [1], [2]]])
        self.assertEqual(self.ways(1, layout(ways=3, cut=cut_but(2))), [[[0, 1, 2]] * 3])
        self.assertEqual(self.ways(2, layout(ways=2, cut=CUT)), [[[0], [1]]] * 3)
        self.assertEqual(self.ways(2, layout(ways=2, cut=cut_but(3))), [[[0, 1]] * 2] * 3)

    def test_lin_behind_other_nodes(self):
        # The parameter 1 is that of the node 3, a lin node over the node 2.
        job = job_of("input 2\ntarget 1\nparam p 1 2 same 0\nparam q 2 1 same 0\nn0 = input\nn1 = n0 + p\n"
                     "n2 = relu(n1)\nn3 = n2 @ q\nloss sum(n3)\nsample 1 2 | 1")
        for v in range(5):
            one = Layout(1, [], 2, [node == v for node in range(5)], False, False)
            wanted = {2: [[0], [1]], 3: [[1], [1]]}.get(v, [[0, 1], [0, 1]])
            self.assertEqual([ways_of_cell(job, one, 1, i, 0) for i in range(2)], wanted)

    def test_unused_parameters(self):
        # The user is the node 0, an input of 2 elements: the columns are read modulo 2.
        job = job_of("input 2\ntarget 1\nparam p 2 5 same 0\nn0 = input\nloss sum(n0)\nsample 1 2 | 1")
        one = Layout(1, [], 2, [True, False], False, False)
        self.assertEqual([ways_of_cell(job, one, 0, i, j) for i in range(2) for j in range(5)],
                         [[0], [1], [0], [1], [0]] * 2)
        one = Layout(1, [1], 2, [False, True], False, False)
        self.assertEqual(ways_of_cell(job, one, 0, 1, 4), [0, 1])
        self.assertEqual(homes(job, one, 0, 0, 1, 4), [0, 1])

    def test_homes(self):
        one = layout(3, [2], 1)
        self.assertEqual([homes(JOB, one, copy, 0, 1, 2) for copy in range(3)], [[0], [2], [4]])
        self.assertEqual([homes(JOB, one, copy, 1, 0, 2) for copy in range(3)], [[1], [3], [5]])
        one = layout(1, [3], 3, cut_but(2))
        self.assertEqual(homes(JOB, one, 0, 1, 0, 2), [0, 1, 2])
        self.assertEqual(homes(JOB, one, 0, 2, 2, 1), [5])

    def test_updaters(self):
        one = layout(2, [3], 1)
        self.assertEqual([updaters(JOB, one, *cell) for cell in cells_of(JOB.net)], [[0, 2]] * 9 + [[1, 3]] * 6)
        one = layout(2, [], 2, cut_but(2, 3))
        self.assertEqual(updaters(JOB, one, 1, 0, 0), [0, 1, 2, 3])
        self.assertEqual(updaters(JOB, one, 0, 1, 0), [1, 3])
        self.assertEqual([updaters(JOB, layout(2, [], 3, CUT), 1, 0, j) for j in range(3)], [[0, 3], [1, 4], [2, 5]])

    def test_spread_updates(self):
        one = layout(2, [3], 1, spread=True)
        self.assertEqual([updaters(JOB, one, *cell) for cell in cells_of(JOB.net)],
                         [[0]] * 3 + [[2]] * 3 + [[0]] + [[2]] * 2 + [[1]] * 3 + [[3]] * 3)
        one = layout(3, [], 2, UNCUT, spread=True)
        self.assertEqual([updaters(JOB, one, 0, i, j) for i in range(2) for j in range(3)],
                         [[0, 1]] * 2 + [[2, 3]] * 2 + [[4, 5]] * 2)


class ArgumentsTest(unittest.TestCase):
    def test_arguments_stay_and_answers_are_new(self):
        for seed in range(20):
            rng = rng_of(seed)
            job = live_job(rng)
            one = some_layout(rng, job)
            before = repr((told(job), told_layout(one)))
            questions = [
                lambda: ways_of_element(job, one, 0, 0), lambda: ranks_of_element(job, one, 0, 0, 0),
                lambda: ways_of_cell(job, one, 0, 0, 0), lambda: homes(job, one, 0, 0, 0, 0),
                lambda: updaters(job, one, 0, 0, 0), lambda: cells_of(job.net),
            ]
            for question in questions:
                kept = list(question())
                question().clear()
                self.assertEqual(question(), kept)
            self.assertEqual(repr((told(job), told_layout(one))), before)

import unittest

from asifone.jobs import Job
from asifone.layouts import Layout, fits, part_begin, part_of, rank_at, ranks_of
from asifone.nets import Net
from asifone.texts import job_of
from tests.support import EXAMPLE, told, told_layout

# It has nine nodes and batches of two samples.
JOB = job_of(EXAMPLE)


def layout(copies=1, stages=(), ways=1, cut=(False,) * 9, spread=False, redo=False):
    return Layout(copies, list(stages), ways, list(cut), spread, redo)


def wide(batch):
    """A job with greater batches."""
    return Job(Net(1, 1, [], [("input",)] + [("relu", 0)] * 8), 0, batch, 0, 0, [], [([1], [1])])


class LayoutTest(unittest.TestCase):
    def test_fields(self):
        one = Layout(2, [3, 5], 1, [True, False], True, False)
        self.assertEqual(told_layout(one), (2, [3, 5], 1, [True, False], True, False))

    def test_lists_are_copied(self):
        stages, cut = [3, 5], [True, False]
        one = Layout(2, stages, 1, cut, True, False)
        stages.append(7)
        cut.clear()
        self.assertEqual((one.stages, one.cut), ([3, 5], [True, False]))
        one.stages.clear()
        one.cut.append(True)
        self.assertEqual((stages, cut), ([3, 5, 7], []))


class FitsTest(unittest.TestCase):
    def check(self, job, rows):
        for one, result in rows:
            self.assertIs(fits(job, one), result, told_layout(one))

    def test_copies(self):
        self.check(JOB, [(layout(copies=copies), 1 <= copies <= 2) for copies in range(-1, 6)])
        self.check(wide(4), [(layout(copies=copies), 1 <= copies <= 4) for copies in range(-1, 7)])
        # At most 4 copies, also of a batch that is too great.
        self.check(wide(6), [(layout(copies=copies), 1 <= copies <= 4) for copies in range(-1, 7)])
        self.check(wide(1), [(layout(copies=copies), copies == 1) for copies in range(3)])

    def test_ways(self):
        self.check(JOB, [(layout(ways=ways), 1 <= ways <= 4) for ways in range(-1, 7)])

    def test_cut(self):
        self.check(JOB, [(layout(cut=[True] * many), many == 9) for many in range(12)])
        self.check(JOB, [(layout(ways=2, cut=[True, False] * 4 + [True]), True)])

    def test_stages(self):
        self.check(JOB, [(layout(stages=[first]), 1 <= first <= 8) for first in range(-2, 11)])
        rows = [([1, 8], True), ([1, 9], False), ([0, 8], False), ([4, 4], False), ([5, 4], False), ([4, 5], True),
                ([1, 2, 3, 4, 5], True), ([1, 2, 3, 4, 5, 6], False), ([1, 2, 2, 4], False), ([2, 1, 3], False)]
        self.check(JOB, [(layout(stages=stages), result) for stages, result in rows])

    def test_ranks(self):
        rows = [((2, [3, 5], 1), True), ((2, [3, 5, 6], 1), False), ((1, [3], 3), True), ((1, [3], 4), False),
                ((2, [], 3), True), ((2, [], 4), False), ((2, [3], 2), False), ((1, [3, 5], 2), True),
                ((1, [], 4), True), ((2, [3], 1), True)]
        self.check(JOB, [(layout(copies, stages, ways), result) for (copies, stages, ways), result in rows])

    def test_spread_and_redo(self):
        self.check(JOB, [(layout(spread=one, redo=other), True) for one in (True, False) for other in (True, False)])

    def test_arguments_stay(self):
        one = layout(2, [3, 5])
        before = repr((told(JOB), told_layout(one)))
        fits(JOB, one)
        ranks_of(one)
        rank_at(one, 1, 1, 0)
        self.assertEqual(repr((told(JOB), told_layout(one))), before)


class RanksTest(unittest.TestCase):
    def test_numbers(self):
        for copies, stages, ways in ((1, [], 1), (2, [3], 3), (4, [1, 2, 3], 2), (3, [], 5), (7, [0, 0], 9)):
            one = layout(copies, stages, ways)
            ranks = [rank_at(one, copy, stage, way) for copy in range(copies) for stage in range(len(stages) + 1)
                     for way in range(ways)]
            self.assertEqual(ranks, list(range(ranks_of(one))))

    def test_one_rank(self):
        self.assertEqual(rank_at(layout(2, [3, 5], 4), 1, 2, 3), (1 * 3 + 2) * 4 + 3)
        self.assertEqual(ranks_of(layout(2, [3, 5], 4)), 24)
        self.assertEqual(ranks_of(layout(0, [3, 5], 4)), 0)


class PartsTest(unittest.TestCase):
    def test_begins(self):
        self.assertEqual([part_begin(7, 3, k) for k in range(4)], [0, 2, 4, 7])
        self.assertEqual([part_begin(6, 3, k) for k in range(4)], [0, 2, 4, 6])
        self.assertEqual([part_begin(2, 4, k) for k in range(5)], [0, 0, 1, 1, 2])
        self.assertEqual([part_begin(0, 4, k) for k in range(5)], [0, 0, 0, 0, 0])
        self.assertEqual([part_begin(5, 1, k) for k in range(2)], [0, 5])

    def test_parts(self):
        self.assertEqual([part_of(7, 3, i) for i in range(7)], [0, 0, 1, 1, 2, 2, 2])
        self.assertEqual([part_of(2, 4, i) for i in range(2)], [1, 3])
        self.assertEqual([part_of(1, 4, i) for i in range(1)], [3])
        self.assertEqual([part_of(5, 1, i) for i in range(5)], [0] * 5)

    def test_least_part_whose_end_is_greater(self):
        for n in range(1, 40):
            for m in range(1, 14):
                for i in range(n):
                    wanted = min(k for k in range(m) if n * (k + 1) // m > i)
                    self.assertEqual(part_of(n, m, i), wanted, (n, m, i))
                    self.assertTrue(part_begin(n, m, wanted) <= i < part_begin(n, m, wanted + 1))

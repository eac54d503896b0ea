import unittest

from asifone.derivations import plain_way
from asifone.homes import ranks_in, way_in
from asifone.layouts import Layout
from asifone.names import is_name
from asifone.places import homes, ranks_of_element, updaters
from asifone.texts import job_of
from asifone.ways import is_way, ways_of
from tests.support import WHOLE, live_job, rng_of, some_layout, some_name, told, told_layout

# It has 24 nodes and batches of three samples.
JOB = job_of(WHOLE)
DIRECT = ("direct",)
N = 2


def layout(copies=1, stages=(), ways=1, cut=range(24), spread=False):
    """A layout that cuts the nodes that are told."""
    return Layout(copies, list(stages), ways, [v in cut for v in range(24)], spread, False)


def parts(n, m):
    """The parts of n things, lists of things."""
    return [list(range(n * k // m, n * (k + 1) // m)) for k in range(m)]


class HomesTest(unittest.TestCase):
    def check(self, one, name, way, ranks):
        self.assertTrue(is_name(JOB, name), name)
        self.assertTrue(is_way(JOB, name, way), name)
        self.assertEqual((way_in(JOB, one, name), ranks_in(JOB, one, name)), (way, ranks), name)


class CellsTest(HomesTest):
    def test_par_and_mom(self):
        for kind in ("par", "mom"):
            one = layout(2, [3], 1)
            self.check(one, (kind, N, 0, 1, 2), DIRECT, [0, 2])
            self.check(one, (kind, N, 2, 1, 1), DIRECT, [1, 3])
            self.check(layout(2, [3], 1, spread=True), (kind, N, 2, 1, 1), DIRECT, [3])
            self.check(layout(1, [], 3, [0, 1]), (kind, N, 0, 1, 2), DIRECT, [2])
            self.check(layout(1, [], 3, [1]), (kind, N, 0, 1, 1), DIRECT, [1])
            self.check(layout(1, [], 3, []), (kind, N, 0, 1, 1), DIRECT, [0, 1, 2])
            self.check(layout(2, [], 2, []), (kind, N, 0, 1, 1), DIRECT, [0, 1, 2, 3])

    def test_grd_in_one_block(self):
        one = layout(2, [3], 1)
        self.check(one, ("grd", N, 0, 1, 2, 0, 1), DIRECT, [0])
        self.check(one, ("grd", N, 0, 1, 2, 1, 2), DIRECT, [2])
        self.check(one, ("grd", N, 0, 1, 2, 1, 3), ("join", 2), [2])
        self.check(one, ("grd", N, 2, 1, 1, 2, 3), DIRECT, [3])
        self.check(layout(1, [3], 1), ("grd", N, 2, 1, 1, 0, 3), ("join", 2), [1])
        self.check(layout(1, [3], 1), ("grd", N, 2, 1, 1, 0, 2), ("join", 1), [1])
        # Also where the updates are spread, the homes of the copy have it.
        self.check(layout(2, [3], 1, spread=True), ("grd", N, 2, 1, 1, 0, 1), DIRECT, [1])
        self.check(layout(2, [], 2, []), ("grd", N, 2, 1, 1, 1, 3), ("join", 2), [2, 3])

    def test_grd_over_blocks(self):
        one = layout(2, [3], 1)
        self.check(one, ("grd", N, 0, 1, 2, 0, 3), ("join", 1), [0, 2])
        self.check(one, ("grd", N, 0, 1, 2, 0, 2), ("join", 1), [0, 2])
        self.check(layout(2, [3], 1, spread=True), ("grd", N, 2, 1, 1, 0, 3), ("join", 1), [3])
        one = layout(3, [], 2, [])
        self.check(one, ("grd", N, 0, 1, 2, 0, 3), ("join", 2), [0, 1, 2, 3, 4, 5])
        self.check(one, ("grd", N, 0, 1, 2, 0, 2), ("join", 1), [0, 1, 2, 3, 4, 5])
        self.check(one, ("grd", N, 0, 1, 2, 2, 3), DIRECT, [4, 5])


class LossesTest(HomesTest):
    def test_los(self):
        one = layout(2, [3], 1)
        self.check(one, ("los", N, 0, 1), DIRECT, [1])
        self.check(one, ("los", N, 1, 2), DIRECT, [3])
        self.check(one, ("los", N, 1, 3), ("join", 2), [3])
        self.check(one, ("los", N, 0, 2), ("join", 1), [1])
        self.check(one, ("los", N, 0, 3), ("join", 1), [1])
        one = layout(1, [], 3)
        self.check(one, ("los", N, 0, 1), DIRECT, [0])
        self.check(one, ("los", N, 0, 3), ("join", 2), [0])


class ElementsTest(HomesTest):
    def test_val_and_inc(self):
        one = layout(2, [3, 9], 1)
        self.check(one, ("val", N, 0, 4, 7), DIRECT, [1])
        self.check(one, ("val", N, 1, 4, 7), DIRECT, [4])
        self.check(one, ("inc", N, 1, 4, 7, 6), DIRECT, [4])
        self.check(one, ("inc", N, 1, 4, 7, 7), ("skip", 11), [4])
        self.check(one, ("inc", N, 1, 4, 7, 12), ("skip", 24), [4])
        self.check(one, ("inc", N, 1, 4, 7, 24), DIRECT, [4])
        one = layout(1, [3], 3, [4])
        self.check(one, ("val", N, 2, 4, 7), DIRECT, [4])
        self.check(one, ("inc", N, 2, 4, 7, 5), ("skip", 6), [4])
        self.check(one, ("val", N, 2, 6, 7), DIRECT, [3, 4, 5])


class SumsTest(HomesTest):
    def test_lin(self):
        # Node 1 has two terms and rows of 3; the sum is cut if node 0 is.
        one = layout(2, [1], 1)
        self.check(one, ("pre", N, 1, 1, 5, 0, 2), DIRECT, [3])
        one = layout(1, [1], 3, [0])
        self.check(one, ("pre", N, 1, 1, 5, 0, 2), ("join", 1), [3, 4, 5])
        self.check(one, ("pre", N, 1, 1, 5, 0, 1), DIRECT, [4])
        self.check(one, ("pre", N, 1, 1, 5, 1, 2), DIRECT, [5])
        one = layout(1, [1], 3, [0, 1])
        self.check(one, ("pre", N, 1, 1, 5, 0, 2), ("join", 1), [5])
        self.check(one, ("pre", N, 1, 1, 5, 0, 1), DIRECT, [4])
        one = layout(1, [1], 3, [1])
        self.check(one, ("pre", N, 1, 1, 5, 0, 2), DIRECT, [5])
        one = layout(1, [1], 3, [])
        self.check(one, ("pre", N, 1, 1, 5, 0, 1), DIRECT, [3, 4, 5])

    def test_sum(self):
        # Node 20 has nine terms and node 21 five.
        one = layout(1, [], 2, [19])
        self.check(one, ("pre", N, 1, 20, 0, 0, 9), ("join", 4), [0, 1])
        self.check(one, ("pre", N, 1, 20, 0, 0, 5), ("join", 4), [0, 1])
        self.check(one, ("pre", N, 1, 20, 0, 0, 4), DIRECT, [0])
        self.check(one, ("pre", N, 1, 20, 0, 4, 9), DIRECT, [1])
        self.check(one, ("pre", N, 1, 20, 0, 6, 8), DIRECT, [1])
        one = layout(2, [18], 3, [17])
        self.check(one, ("pre", N, 1, 21, 0, 0, 5), ("join", 3), [9, 10, 11])
        self.check(one, ("pre", N, 1, 21, 0, 0, 3), ("join", 1), [9, 10, 11])
        self.check(one, ("pre", N, 1, 21, 0, 1, 3), DIRECT, [10])
        self.check(one, ("pre", N, 1, 21, 0, 4, 5), DIRECT, [11])
        self.check(layout(1, [], 2, [21]), ("pre", N, 1, 21, 0, 0, 5), DIRECT, [1])

    def test_empty_parts(self):
        # Two terms among four ways: the parts 1 and 3 have one each.
        one = layout(1, [], 4, [0])
        self.check(one, ("pre", N, 0, 1, 0, 0, 2), ("join", 1), [0, 1, 2, 3])
        self.check(one, ("pre", N, 0, 1, 0, 0, 1), DIRECT, [1])
        self.check(one, ("pre", N, 0, 1, 0, 1, 2), DIRECT, [3])

    def test_mat_is_never_cut(self):
        one = layout(1, [], 3)
        self.check(one, ("pre", N, 0, 4, 5, 0, 2), DIRECT, [2])
        self.check(one, ("pre", N, 0, 5, 3, 0, 3), DIRECT, [2])
        self.check(one, ("bac", N, 0, 4, 0, 5, 0, 3), DIRECT, [2])
        self.check(one, ("bac", N, 0, 5, 1, 3, 0, 2), DIRECT, [2])
        self.check(layout(1, [], 3, [4, 5]), ("bac", N, 0, 5, 1, 3, 0, 2), DIRECT, [0, 1, 2])

    def test_bac(self):
        # Node 1 has rows of 3, so that there are three terms for each element of node 0.
        one = layout(1, [1], 2, [1])
        self.check(one, ("bac", N, 0, 1, 0, 3, 0, 3), ("join", 1), [2, 3])
        self.check(one, ("bac", N, 0, 1, 0, 3, 0, 1), DIRECT, [2])
        self.check(one, ("bac", N, 0, 1, 0, 3, 1, 3), DIRECT, [3])
        self.check(one, ("bac", N, 0, 1, 0, 3, 2, 3), DIRECT, [3])
        one = layout(1, [1], 2, [0, 1])
        self.check(one, ("bac", N, 0, 1, 0, 3, 0, 3), ("join", 1), [3])
        self.check(one, ("bac", N, 0, 1, 0, 0, 0, 3), ("join", 1), [2])
        self.check(one, ("bac", N, 0, 1, 0, 0, 1, 3), DIRECT, [3])
        one = layout(1, [1], 2, [0])
        self.check(one, ("bac", N, 0, 1, 0, 0, 0, 3), DIRECT, [2])
        one = layout(2, [1], 1)
        self.check(one, ("bac", N, 2, 1, 0, 0, 0, 3), DIRECT, [3])


class RandomTest(unittest.TestCase):
    """Against the table of [49], by lists of parts."""

    def block(self, job, one, t):
        return [block for block in parts(job.batch, one.copies) if t in block][0]

    def rank(self, job, one, t, v, way):
        copy = [t in block for block in parts(job.batch, one.copies)].index(True)
        stage = len([first for first in one.stages if first <= v])
        return (copy * (len(one.stages) + 1) + stage) * one.ways + way

    def terms(self, job, one, name):
        """The parts of the terms if the sum is cut, else None."""
        node, v = job.net.nodes[name[3]], name[3]
        if name[0] == "pre" and node[0] in ("lin", "sum") and one.cut[node[-1]]:
            many = job.net.parameters[node[1]].rows if node[0] == "lin" else job.net.lengths[node[1]]
            return parts(many, one.ways)
        if name[0] == "bac" and node[0] == "lin" and one.cut[v]:
            return parts(job.net.parameters[node[1]].cols, one.ways)
        return None

    def wanted(self, job, one, name):
        kind = name[0]
        if kind in ("par", "mom"):
            return DIRECT, updaters(job, one, *name[2:])
        if kind in ("val", "inc"):
            return plain_way(job, name), ranks_of_element(job, one, *name[2:5])
        lo, hi = name[-2:]
        if kind in ("grd", "los"):
            first, last = self.block(job, one, lo), self.block(job, one, hi - 1)
            way = ("join", last[0]) if last[0] > lo else ("join", hi - 1) if lo < hi - 1 else DIRECT
            alone = hi - 1 in first
            copy = parts(job.batch, one.copies).index(first)
            if kind == "los":
                t = lo if alone else self.block_of_copy_0(job, one)
                return way, [self.rank(job, one, t, len(job.net.nodes) - 1, 0)]
            return way, homes(job, one, copy, *name[2:5]) if alone else updaters(job, one, *name[2:5])
        _, _, t, v = name[:4]
        terms = self.terms(job, one, name)
        if terms is not None:
            start = [part for part in terms if hi - 1 in part][0][0]
            if start <= lo:
                way = [lo in part for part in terms].index(True)
                return DIRECT, [self.rank(job, one, t, v, way)]
        way = DIRECT if terms is None else ("join", start)
        if kind == "pre":
            return way, ranks_of_element(job, one, t, v, name[4])
        operand = job.net.nodes[v][2 + name[4]]
        ways = [rank - self.rank(job, one, t, operand, 0) for rank in ranks_of_element(job, one, t, operand, name[5])]
        return way, [self.rank(job, one, t, v, number) for number in ways]

    def block_of_copy_0(self, job, one):
        return parts(job.batch, one.copies)[0][0]

    def test_against_the_table(self):
        seen = set()
        for seed in range(200):
            rng = rng_of(seed)
            job = live_job(rng)
            one = some_layout(rng, job)
            before = repr((told(job), told_layout(one)))
            for _ in range(40):
                name = some_name(rng, job)
                if name[0] in ("pre", "bac", "grd", "los") and name[-2] == name[-1]:
                    continue
                way, ranks = self.wanted(job, one, name)
                self.assertEqual(way_in(job, one, name), way, (name, told_layout(one)))
                self.assertEqual(ranks_in(job, one, name), ranks, (name, told_layout(one)))
                self.assertIn(way, ways_of(job, name))
                seen.add((name[0], way[0], len(ranks) > 1))
            self.assertEqual(repr((told(job), told_layout(one))), before)
        self.assertEqual(len(seen), 24, seen)

    def test_answers_are_new(self):
        one = layout(2, [], 2, [])
        for name in (("par", N, 0, 0, 0), ("val", N, 0, 0, 0), ("grd", N, 0, 0, 0, 0, 3), ("los", N, 0, 3)):
            kept = list(ranks_in(JOB, one, name))
            ranks_in(JOB, one, name).clear()
            self.assertEqual(ranks_in(JOB, one, name), kept)

import unittest

from asifone.jobs import Job
from asifone.names import is_name, place
from asifone.nets import operands
from asifone.texts import job_of
from asifone.ways import is_way, premises, ways_of
from tests.support import WHOLE, live_job, rng_of, some_name, told

JOB = job_of(WHOLE)
DIRECT = ("direct",)
# The batch of this step has the samples 1, 3 and 3; sample 3 is 1 2 8 1.
N, T = 2, 1


def val(v, j, t=T):
    return ("val", N, t, v, j)


def par(p, i, j):
    return ("par", N, p, i, j)


def adj(v, j, t=T):
    return ("inc", N, t, v, j, v + 1)


def inc(v, j, u):
    return ("inc", N, T, v, j, u)


def pre(v, j, lo, hi):
    return ("pre", N, T, v, j, lo, hi)


def bac(u, s, i, lo, hi):
    return ("bac", N, T, u, s, i, lo, hi)


class IsWayTest(unittest.TestCase):
    def check(self, name, results):
        self.assertTrue(is_name(JOB, name))
        for way, result in results:
            self.assertIs(is_way(JOB, name, way), result, (name, way))

    def test_direct(self):
        for name in (par(0, 0, 0), ("mom", N, 0, 0, 0), val(0, 0), pre(1, 0, 0, 2), inc(0, 0, 24), bac(1, 0, 0, 1, 1),
                     ("grd", N, 0, 0, 0, 0, 3), ("los", N, 2, 2)):
            self.check(name, [(DIRECT, True)])

    def test_join(self):
        for name in (pre(20, 0, 2, 5), bac(4, 1, 0, 2, 3), ("grd", N, 0, 0, 0, 2, 3), ("los", N, 2, 3)):
            lo, hi = name[-2:]
            self.check(name, [(("join", m), lo <= m <= hi) for m in range(8)])
        self.check(("los", N, 2, 2), [(("join", 1), False), (("join", 2), True), (("join", 3), False)])
        for name in (par(0, 0, 0), ("mom", N, 0, 0, 0), val(0, 0), inc(0, 0, 1)):
            self.check(name, [(("join", m), False) for m in range(25)])

    def test_skip(self):
        # Node 2 is an operand of 4 and 5, node 23 of none, node 6 of 7 and 13.
        self.check(inc(2, 0, 3), [(("skip", m), m in (3, 4)) for m in range(26)])
        self.check(inc(2, 0, 4), [(("skip", m), m == 4) for m in range(26)])
        self.check(inc(2, 0, 6), [(("skip", m), 6 <= m <= 24) for m in range(26)])
        self.check(inc(6, 0, 8), [(("skip", m), 8 <= m <= 13) for m in range(26)])
        self.check(inc(6, 0, 24), [(("skip", m), m == 24) for m in range(26)])
        self.check(inc(23, 0, 24), [(("skip", m), m == 24) for m in range(26)])
        for name in (par(0, 0, 0), ("mom", N, 0, 0, 0), val(0, 0), pre(20, 0, 2, 5), bac(4, 1, 0, 2, 3),
                     ("grd", N, 0, 0, 0, 2, 3), ("los", N, 2, 3)):
            self.check(name, [(("skip", m), False) for m in range(25)])


class WaysTest(unittest.TestCase):
    def check(self, name, *more):
        self.assertTrue(is_name(JOB, name))
        self.assertEqual(ways_of(JOB, name), [DIRECT, *more])

    def test_joins(self):
        self.check(pre(20, 0, 2, 6), ("join", 3), ("join", 4), ("join", 5))
        self.check(pre(20, 0, 2, 4), ("join", 3))
        self.check(pre(20, 0, 2, 3))
        self.check(pre(20, 0, 2, 2))
        self.check(bac(4, 1, 0, 0, 3), ("join", 1), ("join", 2))
        self.check(("grd", N, 0, 0, 0, 0, 3), ("join", 1), ("join", 2))
        self.check(("los", N, 0, 3), ("join", 1), ("join", 2))
        self.check(("los", N, 1, 2))

    def test_skips(self):
        self.check(inc(2, 0, 3), ("skip", 4))
        self.check(inc(2, 0, 4))
        self.check(inc(2, 0, 5))
        self.check(inc(2, 0, 6), *[("skip", m) for m in range(7, 25)])
        self.check(inc(6, 0, 8), *[("skip", m) for m in range(9, 14)])
        self.check(inc(21, 0, 22), ("skip", 23))
        self.check(inc(23, 0, 24))

    def test_others(self):
        for name in (par(0, 0, 0), ("mom", N, 0, 0, 0), val(20, 0)):
            self.check(name)

    def test_answers_are_new(self):
        for name in (val(0, 0), pre(20, 0, 2, 6), inc(6, 0, 8)):
            kept = list(ways_of(JOB, name))
            ways_of(JOB, name).append(1)
            self.assertEqual(ways_of(JOB, name), kept)

    def test_listed_ways_are_ways(self):
        for seed in range(40):
            rng = rng_of(seed)
            job = live_job(rng)
            for _ in range(40):
                name = some_name(rng, job)
                many = len(job.net.nodes)
                ways = [("join", m) for m in range(many + 2)] + [("skip", m) for m in range(many + 2)]
                wanted = [DIRECT] + [way for way in ways if is_way(job, name, way)
                                     and name not in premises(job, name, way)]
                self.assertEqual(ways_of(job, name), wanted, name)


class PremisesTest(unittest.TestCase):
    def check(self, name, *wanted, way=DIRECT):
        self.assertTrue(is_name(JOB, name), name)
        for one in wanted:
            self.assertTrue(is_name(JOB, one), one)
        self.assertEqual(premises(JOB, name, way), list(wanted))

    def test_join(self):
        self.check(pre(20, 0, 2, 6), pre(20, 0, 2, 3), pre(20, 0, 3, 6), way=("join", 3))
        self.check(pre(20, 0, 2, 6), pre(20, 0, 2, 2), pre(20, 0, 2, 6), way=("join", 2))
        self.check(bac(4, 1, 5, 0, 3), bac(4, 1, 5, 0, 3), bac(4, 1, 5, 3, 3), way=("join", 3))
        self.check(("grd", N, 0, 1, 2, 0, 3), ("grd", N, 0, 1, 2, 0, 1), ("grd", N, 0, 1, 2, 1, 3), way=("join", 1))
        self.check(("los", N, 0, 3), ("los", N, 0, 2), ("los", N, 2, 3), way=("join", 2))
        self.check(("los", N, 1, 1), ("los", N, 1, 1), ("los", N, 1, 1), way=("join", 1))

    def test_skip(self):
        self.check(inc(6, 3, 8), inc(6, 3, 11), way=("skip", 11))
        self.check(inc(6, 3, 8), inc(6, 3, 8), way=("skip", 8))
        self.check(inc(2, 3, 6), inc(2, 3, 24), way=("skip", 24))

    def test_cells(self):
        self.check(("par", 0, 0, 1, 2))
        self.check(("mom", 0, 0, 1, 2))
        self.check(("par", 5, 0, 1, 2), ("par", 4, 0, 1, 2), ("mom", 5, 0, 1, 2))
        self.check(("mom", 5, 0, 1, 2), ("mom", 4, 0, 1, 2), ("grd", 4, 0, 1, 2, 0, 3))
        self.check(("mom", 1, 2, 1, 1), ("mom", 0, 2, 1, 1), ("grd", 0, 2, 1, 1, 0, 3))

    def test_los(self):
        self.check(("los", N, 0, 3), val(23, 0, 0), val(23, 0, 1), val(23, 0, 2))
        self.check(("los", N, 2, 3), val(23, 0, 2))
        self.check(("los", N, 2, 2))

    def test_sums(self):
        self.check(pre(1, 5, 0, 2), val(0, 2), par(0, 0, 2), val(0, 3), par(0, 1, 2))
        self.check(pre(1, 5, 1, 2), val(0, 3), par(0, 1, 2))
        self.check(pre(1, 5, 1, 1))
        self.check(pre(18, 0, 1, 2), val(15, 1), val(15, 1))
        self.check(pre(20, 0, 7, 9), val(19, 7), val(19, 8))
        self.check(bac(5, 0, 5, 0, 2), adj(5, 2), val(3, 2), adj(5, 3), val(3, 5))
        self.check(bac(4, 1, 5, 1, 3), val(2, 3), adj(4, 5), val(2, 5), adj(4, 8))
        self.check(bac(4, 1, 5, 3, 3))


class ValTest(unittest.TestCase):
    def check(self, v, j, *wanted):
        self.assertTrue(is_name(JOB, val(v, j)))
        self.assertEqual(premises(JOB, val(v, j), DIRECT), list(wanted))

    def test_sample(self):
        self.check(0, 3)
        self.check(16, 1)

    def test_sums(self):
        self.check(1, 5, pre(1, 5, 0, 2))
        self.check(4, 8, pre(4, 8, 0, 2))
        self.check(5, 3, pre(5, 3, 0, 3))
        self.check(18, 0, pre(18, 0, 0, 3))
        self.check(20, 0, pre(20, 0, 0, 9))
        self.check(21, 0, pre(21, 0, 0, 5))

    def test_bias(self):
        self.check(2, 0, val(1, 0), par(1, 0, 0))
        self.check(2, 5, val(1, 5), par(1, 0, 2))

    def test_embed(self):
        # The elements 2, 8 and 1 name the rows 2, 2 and 1.
        self.check(3, 0, par(2, 2, 0))
        self.check(3, 3, par(2, 2, 1))
        self.check(3, 5, par(2, 1, 1))

    def test_embed_of_another_sample(self):
        # Sample 0 of the batch has 7, -1 and 2.
        rows = [premises(JOB, val(3, j, 0), DIRECT) for j in range(6)]
        self.assertEqual(rows, [[par(2, row, y)] for row in (1, 0, 2) for y in range(2)])

    def test_lower(self):
        kept = [j for j in range(9) if premises(JOB, val(6, j), DIRECT)]
        self.assertEqual(kept, [0, 3, 4, 6, 7, 8])
        self.check(6, 3, val(4, 3))
        self.check(6, 2)

    def test_pairs(self):
        self.check(11, 4, val(10, 4), val(4, 4))
        self.check(12, 4, val(11, 4), val(11, 4))
        self.check(13, 4, val(12, 4), val(6, 4))
        self.check(22, 0, val(20, 0), val(18, 0))

    def test_single_operands(self):
        self.check(7, 4, val(6, 4))
        self.check(8, 4, val(7, 4))
        self.check(9, 4, val(8, 4))
        self.check(10, 4, val(9, 4))

    def test_join_and_take(self):
        self.check(14, 3, val(5, 3))
        self.check(14, 4, val(5, 0))
        self.check(17, 2, val(15, 2))
        self.check(17, 3, val(16, 0))
        self.check(15, 0, val(14, 1))
        self.check(15, 2, val(14, 3))


class IncTest(unittest.TestCase):
    def check(self, v, j, u, *wanted):
        """Behind the wanted ones stands the same name with the next node."""
        self.assertTrue(is_name(JOB, inc(v, j, u)))
        self.assertEqual(premises(JOB, inc(v, j, u), DIRECT), [*wanted, inc(v, j, u + 1)])

    def test_behind_all_nodes(self):
        for v in (0, 5, 22, 23):
            self.assertEqual(premises(JOB, inc(v, 0, 24), DIRECT), [])

    def test_nodes_without_this_operand(self):
        self.check(0, 3, 2)
        self.check(4, 8, 5)
        self.check(20, 0, 21)

    def test_sums(self):
        self.check(0, 3, 1, bac(1, 0, 3, 0, 3))
        self.check(2, 5, 4, bac(4, 0, 5, 0, 3))
        self.check(3, 5, 4, bac(4, 1, 5, 0, 3))
        self.check(2, 5, 5, bac(5, 0, 5, 0, 2))
        self.check(3, 5, 5, bac(5, 1, 5, 0, 2))
        self.check(19, 8, 20, adj(20, 0))

    def test_one_operand_twice(self):
        self.check(15, 2, 18, bac(18, 0, 2, 0, 1), bac(18, 1, 2, 0, 1))
        self.check(13, 7, 19, bac(19, 0, 7, 0, 3), bac(19, 1, 7, 0, 3))
        self.check(5, 3, 14, adj(14, 3), adj(14, 7))
        self.check(11, 4, 12, adj(12, 4))

    def test_pairs(self):
        self.check(10, 4, 11, adj(11, 4))
        self.check(4, 4, 11, adj(11, 4))
        self.check(12, 4, 13, adj(13, 4), val(12, 4), val(6, 4))
        self.check(6, 4, 13, adj(13, 4), val(12, 4), val(6, 4))
        self.check(18, 0, 22, adj(22, 0))

    def test_mul_of_one_operand(self):
        job = job_of("input 2\ntarget 1\nn0 = input\nn1 = n0 * n0\nloss sum(n1)\nsample 1 2 | 0")
        self.assertEqual(
            premises(job, ("inc", 0, 0, 0, 1, 1), DIRECT),
            [("inc", 0, 0, 1, 1, 2), ("val", 0, 0, 0, 1), ("val", 0, 0, 0, 1), ("inc", 0, 0, 0, 1, 2)])

    def test_single_operands(self):
        self.check(1, 4, 2, adj(2, 4))
        self.check(6, 4, 7, adj(7, 4))
        self.check(7, 4, 8, adj(8, 4), val(7, 4))
        self.check(8, 4, 9, adj(9, 4))
        self.check(9, 4, 10, adj(10, 4))

    def test_lower(self):
        self.check(4, 3, 6, adj(6, 3))
        self.check(4, 5, 6)
        self.check(4, 8, 6, adj(6, 8))

    def test_join_and_take(self):
        self.check(15, 2, 17, adj(17, 2))
        self.check(16, 1, 17, adj(17, 4))
        self.check(14, 0, 15)
        self.check(14, 1, 15, adj(15, 0))
        self.check(14, 3, 15, adj(15, 2))
        self.check(14, 4, 15)


class GrdTest(unittest.TestCase):
    def check(self, p, i, j, lo, hi, *wanted):
        name = ("grd", N, p, i, j, lo, hi)
        self.assertTrue(is_name(JOB, name))
        self.assertEqual(premises(JOB, name, DIRECT), list(wanted))

    def test_lin(self):
        self.check(0, 1, 2, 1, 2, val(0, 1), adj(1, 2), val(0, 3), adj(1, 5))
        self.check(0, 1, 2, 0, 2, val(0, 1, 0), adj(1, 2, 0), val(0, 3, 0), adj(1, 5, 0),
                   val(0, 1, 1), adj(1, 2, 1), val(0, 3, 1), adj(1, 5, 1))
        self.check(0, 1, 2, 1, 1)

    def test_bias(self):
        self.check(1, 0, 2, 1, 3, adj(2, 2, 1), adj(2, 5, 1), adj(2, 2, 2), adj(2, 5, 2))

    def test_embed(self):
        self.check(2, 2, 1, 1, 2, adj(3, 1), adj(3, 3))
        self.check(2, 1, 1, 1, 2, adj(3, 5))
        self.check(2, 0, 1, 1, 2)
        self.check(2, 0, 1, 0, 2, adj(3, 3, 0))

    def test_several_users(self):
        net = job_of(
            "input 2\ntarget 1\nparam p 1 2 same 1\nparam q 1 1 same 1\nn0 = embed(p, 0, 1)\nn1 = input + p\n"
            "n2 = n0 + p\nn3 = n2 * n1\nn4 = take(n3, 0, 1) @ p\nloss sum(n4)\nsample 1 2 | 0").net
        job = Job(net, 0, 2, 0, 0, [], [([1, 2], [0])])
        self.assertEqual([node[0] for node in net.nodes],
                         ["embed", "input", "bias", "bias", "mul", "take", "lin", "sum"])

        def one(t, j):
            return [("inc", 4, t, 0, j, 1), ("inc", 4, t, 2, j, 3), ("inc", 4, t, 3, j, 4), ("val", 4, t, 5, 0),
                    ("inc", 4, t, 6, j, 7)]
        self.assertEqual(premises(job, ("grd", 4, 0, 0, 1, 0, 2), DIRECT), one(0, 1) + one(1, 1))
        self.assertEqual(premises(job, ("grd", 4, 0, 0, 0, 1, 2), DIRECT), one(1, 0))
        self.assertEqual(premises(job, ("grd", 4, 1, 0, 0, 0, 2), DIRECT), [])


class OrderTest(unittest.TestCase):
    def test_premises_come_before(self):
        kinds = set()
        for seed in range(80):
            rng = rng_of(seed)
            job = live_job(rng)
            for _ in range(60):
                name = some_name(rng, job)
                self.assertTrue(is_name(job, name), name)
                for way in ways_of(job, name):
                    self.assertTrue(is_way(job, name, way))
                    for one in premises(job, name, way):
                        self.assertTrue(is_name(job, one), one)
                        self.assertLess(place(job, one), place(job, name), (one, name))
                        kinds.add((name[0], way[0], one[0]))
        self.assertEqual(len(kinds), 23, kinds)

    def test_answers_are_new(self):
        for name in (val(11, 4), pre(1, 5, 0, 2), inc(13, 7, 19), ("grd", N, 0, 1, 2, 0, 2), ("los", N, 0, 3)):
            kept = list(premises(JOB, name, DIRECT))
            premises(JOB, name, DIRECT).clear()
            self.assertEqual(premises(JOB, name, DIRECT), kept)

    def test_jobs_stay(self):
        before = repr(told(JOB))
        rng = rng_of(5)
        for _ in range(200):
            name = some_name(rng, JOB)
            for way in ways_of(JOB, name):
                is_way(JOB, name, way)
                premises(JOB, name, way)
        self.assertEqual(repr(told(JOB)), before)
        self.assertEqual(operands(JOB.net.nodes[12]), [11, 11])

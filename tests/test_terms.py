import unittest

from asifone.names import is_name
from asifone.process import adjoints_of, values_of
from asifone.terms import count_of, term_of
from asifone.texts import job_of
from tests.slow import word
from tests.support import WHOLE, live_job, rng_of, some_cells, told

JOB = job_of(WHOLE)
N, T = 2, 1


def val(v, j):
    return ("val", N, T, v, j)


def par(p, i, j):
    return ("par", N, p, i, j)


def adj(v, j):
    return ("inc", N, T, v, j, v + 1)


def terms(job, name):
    return [term_of(job, name, at) for at in range(count_of(job, name))]


class FactorsTest(unittest.TestCase):
    def check(self, name, factors):
        name = (name[0], N, T, *name[1:], 0, 0)
        self.assertTrue(is_name(JOB, name))
        self.assertEqual(count_of(JOB, name), len(factors))
        self.assertEqual(terms(JOB, name), factors)
        for at in range(len(factors)):
            # The range says nothing about the sum of which the name is a part.
            self.assertEqual(term_of(JOB, name[:-2] + (at, at + 1), at), factors[at])

    def test_lin(self):
        self.check(("pre", 1, 0), [(val(0, 0), par(0, 0, 0)), (val(0, 1), par(0, 1, 0))])
        self.check(("pre", 1, 5), [(val(0, 2), par(0, 0, 2)), (val(0, 3), par(0, 1, 2))])
        self.check(("bac", 1, 0, 0), [(adj(1, z), par(0, 0, z)) for z in range(3)])
        self.check(("bac", 1, 0, 3), [(adj(1, 3 + z), par(0, 1, z)) for z in range(3)])

    def test_mat(self):
        # Three rows of two by two rows of three.
        self.check(("pre", 4, 0), [(val(2, 0), val(3, 0)), (val(2, 1), val(3, 3))])
        self.check(("pre", 4, 5), [(val(2, 2), val(3, 2)), (val(2, 3), val(3, 5))])
        self.check(("bac", 4, 0, 0), [(adj(4, z), val(3, z)) for z in range(3)])
        self.check(("bac", 4, 0, 3), [(adj(4, 3 + z), val(3, 3 + z)) for z in range(3)])
        self.check(("bac", 4, 1, 0), [(val(2, 2 * z), adj(4, 3 * z)) for z in range(3)])
        self.check(("bac", 4, 1, 5), [(val(2, 2 * z + 1), adj(4, 3 * z + 2)) for z in range(3)])

    def test_mat_turned(self):
        # Two rows of three by two rows of three, turned.
        self.check(("pre", 5, 1), [(val(2, i), val(3, 3 + i)) for i in range(3)])
        self.check(("pre", 5, 2), [(val(2, 3 + i), val(3, i)) for i in range(3)])
        self.check(("bac", 5, 0, 1), [(adj(5, 0), val(3, 1)), (adj(5, 1), val(3, 4))])
        self.check(("bac", 5, 0, 5), [(adj(5, 2), val(3, 2)), (adj(5, 3), val(3, 5))])
        self.check(("bac", 5, 1, 1), [(val(2, 1), adj(5, 0)), (val(2, 4), adj(5, 2))])
        self.check(("bac", 5, 1, 5), [(val(2, 2), adj(5, 1)), (val(2, 5), adj(5, 3))])

    def test_one_operand_twice(self):
        self.check(("pre", 18, 0), [(val(15, i), val(15, i)) for i in range(3)])
        self.check(("bac", 18, 0, 2), [(adj(18, 0), val(15, 2))])
        self.check(("bac", 18, 1, 2), [(val(15, 2), adj(18, 0))])
        self.check(("pre", 19, 5), [(val(13, 3 + i), val(13, 6 + i)) for i in range(3)])
        self.check(("bac", 19, 0, 5), [(adj(19, 3 + z), val(13, 3 * z + 2)) for z in range(3)])
        self.check(("bac", 19, 1, 5), [(val(13, 3 * z + 2), adj(19, 3 * z + 1)) for z in range(3)])

    def test_sum(self):
        self.check(("pre", 20, 0), [(val(19, i),) for i in range(9)])
        self.check(("pre", 21, 0), [(val(17, i),) for i in range(5)])

    def test_answers_are_tuples(self):
        self.assertIsInstance(term_of(JOB, ("pre", N, T, 20, 0, 0, 9), 3), tuple)
        self.assertIsInstance(term_of(JOB, ("bac", N, T, 1, 0, 0, 0, 3), 2), tuple)


class SumsTest(unittest.TestCase):
    def setUp(self):
        rng = rng_of(23)
        self.jobs = [(job, some_cells(rng, job.net)) for job in (live_job(rng_of(seed)) for seed in range(120))]

    def word_of(self, cells, values, adjoints, name):
        if name[0] == "par":
            return cells[name[2]][name[3]][name[4]]
        if name[0] == "val":
            return values[name[3]][name[4]]
        self.assertEqual(name[5], name[3] + 1)
        return adjoints[name[3]][name[4]]

    def total(self, job, cells, values, adjoints, name):
        result = 0
        for factors in terms(job, name):
            amount = 1
            for factor in factors:
                self.assertTrue(is_name(job, factor))
                amount *= self.word_of(cells, values, adjoints, factor)
            result += amount
        return word(result)

    def test_all_terms_make_the_element(self):
        for job, cells in self.jobs:
            values, adjoints = values_of(job, cells, N, 0), adjoints_of(job, cells, N, 0)
            for v, node in enumerate(job.net.nodes):
                if node[0] in ("lin", "mat", "matT", "sum"):
                    made = [self.total(job, cells, values, adjoints, ("pre", N, 0, v, j, 0, 0))
                            for j in range(job.net.lengths[v])]
                    self.assertEqual(made, values[v])

    def test_all_terms_make_what_is_added(self):
        many = 0
        for job, cells in self.jobs:
            values, adjoints = values_of(job, cells, N, 0), adjoints_of(job, cells, N, 0)
            for u, node in enumerate(job.net.nodes):
                given = {"lin": node[2:], "mat": node[2:], "matT": node[2:]}.get(node[0], ())
                # Only nodes with a single user tell what this user adds.
                users = [a for other in job.net.nodes for a in self.used(other)]
                for s, a in enumerate(given):
                    if users.count(a) == 1:
                        made = [self.total(job, cells, values, adjoints, ("bac", N, 0, u, s, i, 0, 0))
                                for i in range(job.net.lengths[a])]
                        self.assertEqual(made, adjoints[a])
                        many += any(made)
        self.assertGreater(many, 20)

    def used(self, node):
        places = {"input": (), "target": (), "embed": (), "add": (1, 2), "sub": (1, 2), "mul": (1, 2), "join": (1, 2),
                  "mat": (2, 3), "matT": (2, 3), "relu": (1,), "sum": (1,), "take": (3,)}
        return [node[at] for at in places.get(node[0], (2,))]

    def test_jobs_stay(self):
        before = repr(told(JOB))
        terms(JOB, ("pre", N, T, 4, 3, 0, 1))
        terms(JOB, ("bac", N, T, 4, 1, 3, 0, 1))
        self.assertEqual(repr(told(JOB)), before)

import unittest

from asifone.jobs import Job
from asifone.names import code_of, is_name, place
from asifone.nets import Net
from asifone.texts import job_of
from tests.support import WHOLE, told

JOB = job_of(WHOLE)
GREAT = 10 ** 30


class IsNameTest(unittest.TestCase):
    def good(self, *names):
        for name in names:
            self.assertIs(is_name(JOB, name), True, name)

    def bad(self, *names):
        for name in names:
            self.assertIs(is_name(JOB, name), False, name)

    def test_cells(self):
        for kind in ("par", "mom"):
            self.good((kind, 0, 0, 0, 0), (kind, 0, 0, 1, 2), (kind, 7, 1, 0, 2), (kind, 7, 2, 2, 1),
                      (kind, GREAT, 2, 2, 1))
            self.bad((kind, 0, 0, 2, 0), (kind, 0, 0, 0, 3), (kind, 0, 1, 1, 0), (kind, 0, 1, 0, 3), (kind, 0, 2, 3, 0),
                     (kind, 0, 2, 0, 2), (kind, 0, 3, 0, 0), (kind, 0, GREAT, 0, 0))

    def test_val(self):
        self.good(("val", 0, 0, 0, 0), ("val", 0, 2, 0, 3), ("val", 5, 2, 23, 0), ("val", GREAT, 0, 4, 8))
        self.bad(("val", 0, 3, 0, 0), ("val", 0, 0, 24, 0), ("val", 0, 0, 0, 4), ("val", 0, 0, 23, 1),
                 ("val", 0, 0, 4, 9), ("val", 0, GREAT, 0, 0), ("val", 0, 0, 0, GREAT))

    def test_pre(self):
        # The nodes, their lengths and how many terms each of their elements has.
        for v, length, many in ((1, 6, 2), (4, 9, 2), (5, 4, 3), (18, 1, 3), (19, 9, 3), (20, 1, 9), (21, 1, 5)):
            last = length - 1
            self.good(("pre", 0, 0, v, 0, 0, 0), ("pre", 0, 2, v, last, 0, many), ("pre", 0, 0, v, 0, many, many),
                      ("pre", GREAT, 0, v, last, 1, 2))
            self.bad(("pre", 0, 3, v, 0, 0, 0), ("pre", 0, 0, v, length, 0, 0), ("pre", 0, 0, v, 0, 0, many + 1),
                     ("pre", 0, 0, v, 0, 2, 1), ("pre", 0, 0, v, 0, many + 1, many + 1))
        self.bad(("pre", 0, 0, 24, 0, 0, 0))
        for v, node in enumerate(JOB.net.nodes):
            self.assertIs(is_name(JOB, ("pre", 0, 0, v, 0, 0, 1)), node[0] in ("lin", "mat", "matT", "sum"))

    def test_inc(self):
        self.good(("inc", 0, 0, 0, 0, 1), ("inc", 0, 2, 0, 3, 24), ("inc", 0, 0, 4, 8, 5), ("inc", 0, 0, 23, 0, 24),
                  ("inc", GREAT, 0, 22, 0, 23))
        self.bad(("inc", 0, 0, 0, 0, 0), ("inc", 0, 0, 0, 0, 25), ("inc", 0, 0, 4, 0, 4), ("inc", 0, 0, 4, 0, 3),
                 ("inc", 0, 0, 4, 9, 5), ("inc", 0, 3, 4, 0, 5), ("inc", 0, 0, 24, 0, 25), ("inc", 0, 0, 23, 0, 23))

    def test_bac(self):
        # The node, the operand, its length and how many terms each of its elements has.
        rows = ((1, 0, 4, 3), (4, 0, 6, 3), (4, 1, 6, 3), (5, 0, 6, 2), (5, 1, 6, 2), (18, 0, 3, 1), (18, 1, 3, 1),
                (19, 0, 9, 3), (19, 1, 9, 3))
        for u, s, length, many in rows:
            last = length - 1
            self.good(("bac", 0, 0, u, s, 0, 0, 0), ("bac", 0, 2, u, s, last, 0, many),
                      ("bac", 0, 0, u, s, 0, many, many), ("bac", GREAT, 0, u, s, 0, 1, 1))
            self.bad(("bac", 0, 3, u, s, 0, 0, 0), ("bac", 0, 0, u, s, length, 0, 0),
                     ("bac", 0, 0, u, s, 0, 0, many + 1), ("bac", 0, 0, u, s, 0, 1, 0),
                     ("bac", 0, 0, u, s, 0, many + 1, many + 1), ("bac", 0, 0, u, 2, 0, 0, 0))
        self.bad(("bac", 0, 0, 1, 1, 0, 0, 0), ("bac", 0, 0, 24, 0, 0, 0, 0))
        for u, node in enumerate(JOB.net.nodes):
            self.assertIs(is_name(JOB, ("bac", 0, 0, u, 0, 0, 0, 1)), node[0] in ("lin", "mat", "matT"))
            self.assertIs(is_name(JOB, ("bac", 0, 0, u, 1, 0, 0, 1)), node[0] in ("mat", "matT"))

    def test_sides_that_differ(self):
        # The operand of lin is longer than the node, and that of mat has more terms than the other one.
        job = job_of("input 6\ntarget 1\nparam w 3 1 same 1\nn0 = input\nn1 = n0 @ w\nn2 = mat(n0, n1, 2)\nn3 = n2 @ w"
                     "\nloss sum(n3)\nsample 1 2 3 4 5 6 | 0")
        self.assertEqual(job.net.lengths, [6, 2, 3, 1, 1])
        for name, result in (
                (("bac", 0, 0, 1, 0, 5, 0, 1), True), (("bac", 0, 0, 1, 0, 6, 0, 1), False),
                (("bac", 0, 0, 1, 0, 0, 0, 2), False), (("bac", 0, 0, 2, 0, 5, 0, 1), True),
                (("bac", 0, 0, 2, 0, 5, 0, 2), False), (("bac", 0, 0, 2, 1, 1, 0, 3), True),
                (("bac", 0, 0, 2, 1, 2, 0, 3), False), (("bac", 0, 0, 2, 1, 1, 0, 4), False),
                (("pre", 0, 0, 1, 1, 0, 3), True), (("pre", 0, 0, 1, 2, 0, 3), False)):
            self.assertIs(is_name(job, name), result, name)

    def test_grd(self):
        self.good(("grd", 0, 0, 0, 0, 0, 0), ("grd", 0, 0, 1, 2, 0, 3), ("grd", GREAT, 2, 2, 1, 3, 3),
                  ("grd", 0, 1, 0, 2, 1, 2))
        self.bad(("grd", 0, 0, 2, 0, 0, 0), ("grd", 0, 0, 0, 3, 0, 0), ("grd", 0, 3, 0, 0, 0, 0),
                 ("grd", 0, 0, 0, 0, 0, 4), ("grd", 0, 0, 0, 0, 2, 1), ("grd", 0, 0, 0, 0, 4, 4))

    def test_los(self):
        self.good(("los", 0, 0, 0), ("los", 0, 0, 3), ("los", GREAT, 3, 3), ("los", 4, 1, 2))
        self.bad(("los", 0, 0, 4), ("los", 0, 2, 1), ("los", 0, 4, 4))

    def test_without_parameters(self):
        job = job_of("input 1\ntarget 1\nloss sum(input)\nsample 1 | 2")
        for kind in ("par", "mom"):
            self.assertIs(is_name(job, (kind, 0, 0, 0, 0)), False)
        self.assertIs(is_name(job, ("grd", 0, 0, 0, 0, 0, 0)), False)
        self.assertIs(is_name(job, ("los", 0, 0, 1)), True)

    def test_nodes_without_a_length(self):
        job = Job(Net(1, 1, [], [("input",), ("shift", 32, 0), ("sum", 1)]), 0, 1, 0, 0, [], [([1], [1])])
        self.assertIs(is_name(job, ("val", 0, 0, 0, 0)), True)
        for name in (("val", 0, 0, 1, 0), ("inc", 0, 0, 2, 0, 3), ("pre", 0, 0, 2, 0, 0, 1)):
            self.assertIs(is_name(job, name), False)

    def test_job_stays(self):
        before = repr(told(JOB))
        self.test_pre()
        self.assertEqual(repr(told(JOB)), before)


class OrderTest(unittest.TestCase):
    def test_codes(self):
        self.assertEqual(code_of(("par", 9, 1, 2, 3)), (0, 9, 1, 2, 3))
        self.assertEqual(code_of(("mom", 9, 1, 2, 3)), (1, 9, 1, 2, 3))
        self.assertEqual(code_of(("val", 9, 1, 2, 3)), (2, 9, 1, 2, 3))
        self.assertEqual(code_of(("pre", 9, 1, 2, 3, 4, 5)), (3, 9, 1, 2, 3, 4, 5))
        self.assertEqual(code_of(("inc", 9, 1, 2, 3, 4)), (4, 9, 1, 2, 3, 4))
        self.assertEqual(code_of(("bac", 9, 1, 2, 0, 3, 4, 5)), (5, 9, 1, 2, 0, 3, 4, 5))
        self.assertEqual(code_of(("grd", 9, 1, 2, 3, 4, 5)), (6, 9, 1, 2, 3, 4, 5))
        self.assertEqual(code_of(("los", GREAT, 4, 5)), (7, GREAT, 4, 5))

    def test_places(self):
        # N is 24.
        rows = [
            (("mom", 9, 1, 0, 2), 0, 0), (("par", 9, 1, 0, 2), 1, 0),
            (("pre", 9, 2, 1, 5, 0, 2), 4, 2), (("pre", 9, 2, 20, 0, 3, 7), 42, 4), (("pre", 9, 2, 4, 0, 1, 1), 10, 0),
            (("val", 9, 2, 0, 3), 3, 0), (("val", 9, 2, 23, 0), 49, 0),
            (("los", 9, 1, 3), 50, 2),
            (("inc", 9, 2, 23, 0, 24), 53, 0), (("inc", 9, 2, 0, 3, 1), 99, 23), (("inc", 9, 2, 4, 8, 11), 91, 13),
            (("bac", 9, 2, 19, 1, 8, 1, 3), 62, 2), (("bac", 9, 2, 1, 0, 0, 0, 3), 98, 3),
            (("grd", 9, 2, 1, 1, 0, 3), 101, 3), (("grd", 9, 2, 1, 1, 2, 2), 101, 0),
        ]
        for name, phase, third in rows:
            self.assertIs(is_name(JOB, name), True, name)
            self.assertEqual(place(JOB, name), (9, phase, third, code_of(name)))

    def test_order(self):
        names = [
            ("mom", 3, 0, 0, 0), ("mom", 3, 0, 0, 1), ("mom", 3, 1, 0, 0), ("par", 3, 0, 0, 0), ("val", 3, 0, 0, 0),
            ("val", 3, 1, 0, 0), ("pre", 3, 1, 1, 0, 1, 1), ("pre", 3, 0, 1, 5, 1, 2), ("pre", 3, 1, 1, 0, 0, 1),
            ("pre", 3, 0, 1, 0, 0, 2), ("val", 3, 0, 1, 0), ("los", 3, 2, 3), ("los", 3, 0, 2), ("inc", 3, 0, 23, 0, 24),
            ("inc", 3, 0, 22, 0, 24), ("inc", 3, 0, 22, 0, 23), ("inc", 3, 0, 1, 0, 2), ("bac", 3, 0, 1, 0, 0, 0, 1),
            ("bac", 3, 0, 1, 0, 0, 0, 3), ("inc", 3, 0, 0, 0, 24), ("grd", 3, 0, 0, 0, 2, 3), ("grd", 3, 0, 0, 0, 0, 2),
            ("mom", 4, 0, 0, 0),
        ]
        places = [place(JOB, name) for name in names]
        self.assertEqual(places, sorted(places))
        self.assertEqual(len({one[:] for one in places}), len(names))

"""[31]: the printed form."""

import unittest

from asifone.jobs import Job, is_job
from asifone.nets import Net, Parameter
from asifone.printed import printed
from asifone.texts import formatted, job_of
from tests.support import EXAMPLE, GREATEST, LEAST, rng_of, some_job, told

EXAMPLE_PRINTED = """seed 0
batch 2
beta 0
point 0
rate 0 1
input 2
target 1
param p0 2 1 mixed 24
param p1 1 1 same 0
n0 = input
n1 = n0 @ p0
n2 = shift(n1, 8)
n3 = n2 + p1
n4 = relu(n3)
n5 = target
n6 = n4 - n5
n7 = n6 * n6
loss sum(n7)
sample 3 -1 | 2
sample 5 7 | 0"""

ALL_KINDS = """seed -5
batch 3
beta -2147483648
point 31
rate 4294967295 2147483647
rate 0 -1
input 4
target 2
param p0 4 6 same -7
param p1 1 3 mixed 0
n0 = input
n1 = target
n2 = n0 @ p0
n3 = n2 + p1
n4 = embed(p1, 1, 2)
n5 = mat(n0, n1, 1)
n6 = matT(n0, n1, 2)
n7 = lower(n0, 2)
n8 = n0 + n7
n9 = n0 - n7
n10 = n0 * n7
n11 = -2147483648 * n0
n12 = 3 * n0
n13 = shift(n0, 0)
n14 = relu(n0)
n15 = drop(n0, 4294967295)
n16 = sum(n0)
n17 = join(n0, n1)
n18 = take(n0, 1, 3)
loss sum(n18)
sample 0 1 -2 3 | 4 -5"""


class ExamplesTest(unittest.TestCase):
    def test_example(self):
        self.assertEqual(printed(job_of(EXAMPLE)), EXAMPLE_PRINTED)

    def test_all_kinds(self):
        self.assertEqual(printed(job_of(ALL_KINDS)), ALL_KINDS)
        self.assertEqual(formatted(ALL_KINDS), ALL_KINDS)

    def test_of_a_job_without_a_text(self):
        net = Net(2, 1, [Parameter(1, 2, ("same", LEAST))], [("input",), ("bias", 0, 0), ("sum", 1)])
        job = Job(net, GREATEST, 1, 0, 0, [], [([LEAST, 0], [GREATEST])])
        self.assertEqual(printed(job), "\n".join([
            "seed 2147483647", "batch 1", "beta 0", "point 0", "input 2", "target 1", "param p0 1 2 same -2147483648",
            "n0 = input", "n1 = n0 + p0", "loss sum(n1)", "sample -2147483648 0 | 2147483647",
        ]))

    def test_one_node(self):
        job = Job(Net(1, 1, [], [("target",)]), 0, 1, 0, 0, [], [([1], [2])])
        self.assertEqual(printed(job).split("\n")[6:], ["loss target", "sample 1 | 2"])
        self.assertEqual(told(job_of(printed(job))), told(job))


class RandomTest(unittest.TestCase):
    def test_read_back(self):
        for seed in range(150):
            job = some_job(rng_of(seed))
            self.assertTrue(is_job(job))
            before = repr(told(job))
            text = printed(job)
            self.assertEqual(told(job_of(text)), told(job))
            self.assertEqual(formatted(text), text)
            self.assertEqual(printed(job_of(text)), text)
            self.assertEqual(repr(told(job)), before)

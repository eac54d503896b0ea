import unittest

from asifone.jobs import Job
from asifone.nets import Net
from asifone.process import adjoints_of, gradients_of, loss_at, state_at, values_of
from asifone.texts import job_of
from asifone.truths import Truths, truth
from tests.slow import SlowTruths
from tests.support import WHOLE, live_job, rng_of, some_name, told

JOB = job_of(WHOLE)


class TruthsTest(unittest.TestCase):
    def test_random_names(self):
        kinds = {}
        for seed in range(80):
            rng = rng_of(seed)
            job = live_job(rng)
            truths, slow = Truths(job), SlowTruths(job)
            for _ in range(60):
                name = some_name(rng, job, (0, 1, 2))
                self.assertEqual(truths.word(name), slow.word(name), name)
                kinds.setdefault(name[0], []).append(slow.word(name))
        self.assertEqual(len(kinds), 8)
        for kind, words in kinds.items():
            self.assertGreater(len([word for word in words if word != 0]), 50, kind)

    def test_the_function_is_the_same(self):
        for seed in range(20):
            rng = rng_of(seed)
            job = live_job(rng)
            truths = Truths(job)
            for _ in range(5):
                name = some_name(rng, job, (0, 1, 2))
                self.assertEqual(truth(job, name), truths.word(name))

    def test_any_order_of_questions(self):
        truths = Truths(JOB)
        names = [("par", 3, 0, 1, 2), ("val", 1, 2, 23, 0), ("mom", 3, 0, 1, 2), ("par", 1, 0, 1, 2), ("los", 0, 0, 3)]
        words = [truths.word(name) for name in names]
        self.assertEqual([Truths(JOB).word(name) for name in names], words)
        self.assertEqual([truths.word(name) for name in reversed(names)], words[::-1])

    def test_against_the_process(self):
        truths = Truths(JOB)
        for n in range(4):
            state = state_at(JOB, n)
            self.assertEqual(truths.word(("los", n, 0, 3)), loss_at(JOB, n))
            self.assertEqual(truths.word(("par", n, 2, 1, 1)), state.cells[2][1][1])
            self.assertEqual(truths.word(("mom", n, 2, 1, 1)), state.moments[2][1][1])
            for t in range(3):
                values, adjoints = values_of(JOB, state.cells, n, t), adjoints_of(JOB, state.cells, n, t)
                for v in range(24):
                    for j in range(JOB.net.lengths[v]):
                        self.assertEqual(truths.word(("val", n, t, v, j)), values[v][j])
                        self.assertEqual(truths.word(("inc", n, t, v, j, v + 1)), adjoints[v][j])
                gradients = gradients_of(JOB, state.cells, n, t)
                self.assertEqual(truths.word(("grd", n, 0, 1, 2, t, t + 1)), gradients[0][1][2])

    def test_parts_of_adjoints(self):
        # n0 * n0 + n0: the adjoint of n0 is 2 * n0 + 1.
        job = job_of("input 1\ntarget 1\nn0 = input\nn1 = n0 * n0\nloss n1 + n0\nsample 7 | 0")
        self.assertEqual([truth(job, ("inc", 0, 0, 0, 0, u)) for u in (1, 2, 3)], [15, 1, 0])
        self.assertEqual(truth(job, ("inc", 0, 0, 2, 0, 3)), 1)
        self.assertEqual(truth(job, ("inc", 0, 0, 1, 0, 3)), 0)

    def test_empty_ranges(self):
        truths = Truths(JOB)
        for name in (("pre", 1, 2, 20, 0, 4, 4), ("bac", 1, 2, 4, 1, 0, 3, 3), ("grd", 1, 0, 1, 2, 3, 3),
                     ("los", 1, 0, 0)):
            self.assertEqual(truths.word(name), 0)

    def test_parts_add_up(self):
        truths = Truths(JOB)
        for name in (("pre", 1, 2, 20, 0, 2, 7), ("bac", 1, 2, 4, 1, 0, 0, 3), ("grd", 1, 0, 1, 2, 0, 3), ("los", 1, 0, 3)):
            for m in range(name[-2], name[-1] + 1):
                parts = truths.word(name[:-1] + (m,)) + truths.word(name[:-2] + (m, name[-1]))
                self.assertEqual((parts - truths.word(name)) % 2 ** 32, 0)


class StateTest(unittest.TestCase):
    def test_states(self):
        for seed in range(20):
            job = live_job(rng_of(seed))
            truths = Truths(job)
            for step in (2, 0, 1, 3):
                state, wanted = truths.state(step), state_at(job, step)
                self.assertEqual((state.cells, state.moments), (wanted.cells, wanted.moments))

    def test_answers_are_new(self):
        truths = Truths(JOB)
        for step in (0, 1):
            for part in ("cells", "moments"):
                kept = repr(getattr(truths.state(step), part))
                state = truths.state(step)
                getattr(state, part)[0][0][0] = 99
                getattr(state, part)[1][0] = []
                getattr(state, part).clear()
                self.assertEqual(repr(getattr(truths.state(step), part)), kept)
        self.assertEqual(truths.word(("par", 0, 0, 0, 0)), -29)
        self.assertEqual(truths.word(("par", 2, 0, 0, 0)), state_at(JOB, 2).cells[0][0][0])

    def test_without_parameters(self):
        job = Job(Net(1, 1, [], [("input",), ("sum", 0)]), 3, 2, 1, 1, [(0, 1)], [([5], [0]), ([7], [0])])
        great = 10 ** 30
        self.assertEqual(truth(job, ("los", great, 0, 2)), 12)
        self.assertEqual((Truths(job).state(great).cells, Truths(job).state(great).moments), ([], []))

    def test_job_stays(self):
        before = repr(told(JOB))
        truths = Truths(JOB)
        for seed in range(100):
            truths.word(some_name(rng_of(seed), JOB, (0, 1, 2)))
        self.assertEqual(repr(told(JOB)), before)

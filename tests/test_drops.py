import unittest

from asifone.drops import tidy
from asifone.letters import wired
from asifone.tasks import tasks
from asifone.texts import job_of
from tests.slow_plans import slow_tidy
from tests.support import LETTERS, rng_of, small_job, some_layout, told
from tests.test_letters import A, B, C, D, make, recv, send, some_acts

JOB = job_of(LETTERS)


def save(*names):
    return ("save", names)


def load(*names):
    return ("load", names)


def drop(*names):
    return ("drop", names)


class TidyTest(unittest.TestCase):
    def check(self, acts, wanted):
        self.assertEqual(tidy(JOB, [(0, act) for act in acts]), [(0, act) for act in wanted])

    def test_the_example(self):
        acts = wired(JOB, [(0, make(A, B)), (1, make(C)), (0, make(D))])
        kept = list(acts)
        self.assertEqual(tidy(JOB, acts), [
            (0, make(A, B)), (0, send(1, A, B)), (0, drop(A)), (1, recv(0, A, B)), (1, make(C)), (1, drop(A, B)),
            (1, send(0, C)), (1, drop(C)), (0, recv(1, C)), (0, make(D)), (0, drop(B, C, D)),
        ])
        self.assertEqual(acts, kept)

    def test_no_acts_and_no_names(self):
        self.check([], [])
        self.check([make(), save(), load()], [make(), save(), load()])

    def test_what_is_never_needed(self):
        self.check([load(B, A, B), load(C)], [load(B, A, B), drop(B, A), load(C), drop(C)])
        self.check([load(A, B), save(B)], [load(A, B), drop(A), save(B), drop(B)])

    def test_a_name_that_is_given_while_it_is_held(self):
        # What an act needs is needed before it is given, so that A is held when it is given again.
        self.check([load(A), recv(1, B), load(A), save(B, A)], [load(A), drop(A), recv(1, B), load(A), save(B, A),
                                                                drop(B, A)])
        los = ("los", 0, 0, 1)
        again = ("make", ((los, ("join", 1)),))
        self.check([load(los, ("los", 0, 1, 1)), again, save(los)],
                   [load(los, ("los", 0, 1, 1)), again, drop(("los", 0, 1, 1)), save(los), drop(los)])

    def test_the_order_is_that_in_which_names_come_to_be_held(self):
        self.check([load(C, B), load(A), save(A, B), save(C), save(A)],
                   [load(C, B), load(A), save(A, B), drop(B), save(C), drop(C), save(A), drop(A)])
        self.check([load(C, B, A), save(A, B, C)], [load(C, B, A), save(A, B, C), drop(C, B, A)])
        # A name that was dropped and is given again stands behind the others.
        self.check([load(A, B), save(A), load(A), save(A, B)],
                   [load(A, B), save(A), drop(A), load(A), save(A, B), drop(B, A)])

    def test_a_name_that_is_given_again_before_it_is_needed(self):
        self.check([load(A, B), save(B), load(A), save(A)],
                   [load(A, B), drop(A), save(B), drop(B), load(A), save(A), drop(A)])
        # An act needs its names before it gives any.
        los = ("los", 0, 0, 1)
        again = ("make", ((los, ("join", 0)),))
        self.check([load(los), again], [load(los), again, drop(los)])

    def test_ranks_are_apart(self):
        acts = [(0, load(A)), (1, load(A)), (1, save(A)), (0, save(A))]
        self.assertEqual(tidy(JOB, acts), acts[:3] + [(1, drop(A)), (0, save(A)), (0, drop(A))])
        acts = [(0, load(A)), (1, load(A)), (0, save(A))]
        self.assertEqual(tidy(JOB, acts), [(0, load(A)), (1, load(A)), (1, drop(A)), (0, save(A)), (0, drop(A))])

    def test_tells_and_names_that_nobody_holds(self):
        los = ("los", 3, 0, 1)
        self.check([load(los), ("tell", 2), ("tell", 3)], [load(los), ("tell", 2), ("tell", 3), drop(los)])
        self.check([save(A), send(1, B), make(D)], [save(A), send(1, B), make(D), drop(D)])

    def test_random_acts(self):
        for seed in range(80):
            rng = rng_of(seed)
            job = small_job(rng)
            acts = some_acts(rng, job, rng.choice([3, 12, 40]))
            before = repr((told(job), acts))
            self.assertEqual(tidy(job, acts), slow_tidy(job, acts), acts)
            self.assertEqual(repr((told(job), acts)), before)

    def test_random_tasks(self):
        for seed in range(12):
            rng = rng_of(seed)
            job = small_job(rng, 25, 6)
            acts = wired(job, tasks(job, some_layout(rng, job), rng.choice([0, 3]), 1))
            self.assertEqual(tidy(job, acts), slow_tidy(job, acts))

    def test_answers_are_new(self):
        acts = [(0, load(A))]
        tidy(JOB, acts).clear()
        self.assertEqual(tidy(JOB, acts), [(0, load(A)), (0, drop(A))])

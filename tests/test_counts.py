import unittest

from asifone.counts import counts, rank_counts
from asifone.layouts import Layout
from asifone.plans import Plan, plan_of
from asifone.texts import job_of
from tests.slow_plans import slow_rank_counts
from tests.support import EXAMPLE, rng_of, small_job, some_layout
from tests.test_letters import A, B, C, D, make, recv, send, some_acts


def load(*names):
    return ("load", names)


def drop(*names):
    return ("drop", names)


class CountsTest(unittest.TestCase):
    def check(self, acts, wanted):
        self.assertEqual(rank_counts(Plan([(0, act) for act in acts], 1), 0), wanted, acts)

    def test_no_acts(self):
        self.check([], (0, 0, 0, 0, 0, 0))
        self.assertEqual(rank_counts(Plan([(0, make(A))], 2), 1), (0, 0, 0, 0, 0, 0))
        self.assertEqual(counts(Plan([], 0)), (0, 0, 0, []))
        self.assertEqual(counts(Plan([], 2)), (0, 0, 0, [(0,) * 6] * 2))

    def test_each_kind_of_act(self):
        self.check([make(A, B, A)], (1, 3, 0, 0, 0, 3))
        self.check([load(A, B)], (1, 0, 0, 0, 0, 2))
        self.check([send(1, A, B, A)], (1, 0, 1, 3, 0, 0))
        self.check([recv(1, A, B)], (1, 0, 0, 0, 2, 2))
        self.check([drop(A, B)], (1, 0, 0, 0, 0, 0))
        self.check([("save", (A, B))], (1, 0, 0, 0, 0, 0))
        self.check([("tell", 3)], (1, 0, 0, 0, 0, 0))
        self.check([make(), send(1), send(2), recv(1)], (4, 0, 2, 0, 0, 0))

    def test_words_that_are_made_again(self):
        self.check([make(A), make(A, B), drop(A), make(A)], (4, 4, 0, 0, 0, 3))

    def test_the_peak(self):
        # Before an act or after it: between the second load and the drop there are four words.
        self.check([load(A), load(B, C, D), drop(B, C, D), load(B)], (4, 0, 0, 0, 0, 4))
        self.check([load(A), drop(A), load(B), drop(B)], (4, 0, 0, 0, 0, 1))
        self.check([load(A), load(A, B), drop(A), load(C, D)], (4, 0, 0, 0, 0, 3))
        self.check([load(A, A), drop(A, A), load(B, C, D), load(A)], (4, 0, 0, 0, 0, 4))
        self.check([load(A), drop(B, C), load(B)], (3, 0, 0, 0, 0, 2))

    def test_of_a_plan(self):
        acts = [(0, make(A, B)), (0, send(1, A, B)), (1, recv(0, A, B)), (2, send(0, C)), (2, send(9, D)), (0, recv(7, C))]
        plan = Plan(acts, 4)
        ranks = [(3, 2, 1, 2, 1, 3), (1, 0, 0, 0, 2, 2), (2, 0, 2, 2, 0, 0), (0, 0, 0, 0, 0, 0)]
        self.assertEqual(counts(plan), (3, 4, 3, ranks))
        self.assertEqual(plan.acts, acts)

    def test_of_a_layout(self):
        job = job_of(EXAMPLE)
        plan = plan_of(job, Layout(1, [4], 1, [False] * 9, False, False), 0, 1)
        # For each of the two samples, val of node 3 goes from rank 0 to rank 1, and the adjoint of node 4 back.
        letters, words, peak, ranks = counts(plan)
        self.assertEqual((letters, words, len(ranks)), (4, 4, 2))
        self.assertEqual([row[2:5] for row in ranks], [(2, 2, 2), (2, 2, 2)])
        self.assertEqual(peak, max(ranks[0][5], ranks[1][5]))

    def test_redo_makes_more_and_holds_less(self):
        job = job_of(EXAMPLE)
        kept, redone = [counts(plan_of(job, Layout(1, [], 1, [False] * 9, False, redo), 0, 1)) for redo in (False, True)]
        self.assertGreater(redone[3][0][1], kept[3][0][1])
        self.assertLess(redone[2], kept[2])

    def test_random_plans(self):
        for seed in range(40):
            rng = rng_of(seed)
            job = small_job(rng, 30, 6)
            acts = some_acts(rng, job, 30)
            acts = [pair for row in acts for pair in self.with_drops(rng, row)]
            if seed % 4 == 0:
                acts = list(plan_of(job, some_layout(rng, job), 1, 1))
            plan = Plan(acts, 7)
            rows = [slow_rank_counts(acts, rank) for rank in range(7)]
            self.assertEqual([rank_counts(plan, rank) for rank in range(7)], rows)
            self.assertEqual(counts(plan), (sum(row[2] for row in rows), sum(row[3] for row in rows),
                                            max(row[5] for row in rows), rows))

    def with_drops(self, rng, pair):
        """A pair, and sometimes a drop of some of its names by some rank."""
        rank, act = pair
        if act[0] not in ("load", "recv", "send") or rng.randrange(2):
            return [pair]
        return [pair, (rng.choice([rank, 0]), drop(*act[-1][:2]))]

    def test_answers_are_new(self):
        plan = Plan([(0, make(A))], 1)
        counts(plan)[3].clear()
        self.assertEqual(counts(plan), (0, 0, 1, [(1, 1, 0, 0, 0, 1)]))

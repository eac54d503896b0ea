import unittest

from asifone.layouts import Layout
from asifone.plans import Plan, plan_of
from asifone.texts import job_of
from asifone.times import best, times
from tests.support import EXAMPLE, rng_of, small_job, some_layout
from tests.test_letters import A, B, C, make, recv, send, some_acts

COSTS = {"make": 3, "word": 5, "file": 7, "delay": 100}


def slow_times(plan, make, word, file, delay):
    """The starts and ends of all acts, one after another."""
    ends, letters, work = [], [], [0] * plan.ranks
    for at, (rank, act) in enumerate(plan.acts):
        start = max([ends[k] for k in range(at) if plan.acts[k][0] == rank], default=0)
        if act[0] == "recv":
            fitting = [one for one in letters if one[:3] == [act[1], rank, act[2]]]
            if fitting:
                start = max(start, fitting[0][3])
                letters.remove(fitting[0])
        cost = {"make": make, "send": word, "recv": word, "load": file, "save": file}.get(act[0])
        cost = 0 if cost is None else cost * len(act[-1])
        ends.append(start + cost)
        if rank < plan.ranks:
            work[rank] += cost
        if act[0] == "send":
            letters.append([rank, act[1], act[2], ends[-1] + delay])
    time = max(ends, default=0)
    return time, [(one, time - one) for one in work]


class TimesTest(unittest.TestCase):
    def check(self, acts, wanted, ranks=2, **more):
        plan = Plan(acts, ranks)
        costs = {**COSTS, **more}
        self.assertEqual(times(plan, **costs), wanted)
        self.assertEqual(slow_times(plan, **costs), wanted)
        self.assertEqual(plan.acts, acts)

    def test_no_acts(self):
        self.check([], (0, []), 0)
        self.check([], (0, [(0, 0), (0, 0)]))
        self.check([(0, make(A))], (3, [(3, 0), (0, 3)]))

    def test_costs_of_acts(self):
        for act, cost in (
            (make(A, B), 6), (("load", (A, B, C)), 21), (("save", (A, B)), 14), (send(1, A, B), 10), (recv(1, A), 5),
            (("drop", (A, B)), 0), (("tell", 4), 0), (make(), 0), (send(1), 0),
        ):
            self.check([(0, act)], (cost, [(cost, 0)]), 1)
            self.check([(0, act), (0, act)], (2 * cost, [(2 * cost, 0)]), 1)

    def test_ranks_work_at_the_same_time(self):
        self.check([(0, make(A)), (1, make(A, B)), (0, make(B, C))], (9, [(9, 0), (6, 3)]))

    def test_a_letter_that_arrives_late(self):
        # Rank 0 sends until 8, the letter arrives at 108, and rank 1, free from 6 on, takes it until 113.
        acts = [(0, make(A)), (1, make(A, B)), (0, send(1, A)), (1, recv(0, A)), (1, make(C))]
        self.check(acts, (116, [(8, 108), (14, 102)]))
        self.check(acts, (16, [(8, 8), (14, 2)]), delay=0)

    def test_a_letter_that_waits(self):
        # It arrives at 9, and rank 1 is free at 12.
        acts = [(0, make(A)), (1, make(A, A, A, A)), (0, send(1, A)), (1, recv(0, A))]
        self.check(acts, (17, [(8, 9), (17, 0)]), delay=1)
        self.check(acts, (17, [(8, 9), (17, 0)]), delay=4)
        self.check(acts, (18, [(8, 10), (17, 1)]), delay=5)

    def test_two_letters_with_the_same_names(self):
        # They arrive at 105 and 113; the first one is taken first.
        acts = [(0, send(1, A)), (0, make(A)), (0, send(1, A)), (1, recv(0, A)), (1, recv(0, A))]
        self.check(acts, (118, [(13, 105), (10, 108)]))
        self.check(acts[:3] + [(1, recv(0, A))], (110, [(13, 97), (5, 105)]))
        acts = [(0, send(1, A)), (1, recv(0, A)), (0, make(A)), (0, send(1, A)), (1, recv(0, A))]
        self.check(acts, (118, [(13, 105), (10, 108)]))

    def test_letters_of_others(self):
        # Only the letter from that rank to this one with just these names in this order counts.
        for other in ((1, send(1, A)), (0, send(0, A)), (0, send(1, B)), (0, send(1, A, A)), (0, send(1))):
            self.check([other, (1, recv(0, A))], slow_times(Plan([other, (1, recv(0, A))], 2), **COSTS))
            self.assertLess(times(Plan([other, (1, recv(0, A))], 2), **COSTS)[0], 100)
        self.check([(0, send(1, A, B)), (1, recv(0, B, A))], (10, [(10, 0), (10, 0)]))
        self.check([(0, send(9, A)), (1, recv(8, A))], (5, [(5, 0), (5, 0)]))

    def test_costs_of_0(self):
        acts = [(0, make(A)), (0, send(1, A)), (1, recv(0, A)), (1, ("save", (A,)))]
        self.check(acts, (0, [(0, 0), (0, 0)]), make=0, word=0, file=0, delay=0)
        self.check(acts, (9, [(0, 9), (0, 9)]), make=0, word=0, file=0, delay=9)

    def test_a_layout(self):
        job = job_of(EXAMPLE)
        plan = plan_of(job, Layout(1, [], 1, [False] * 9, False, False), 0, 1)
        made = sum(len(act[1]) for _, act in plan if act[0] == "make")
        saved = sum(len(act[1]) for _, act in plan if act[0] == "save")
        self.assertEqual(times(plan, **COSTS), (3 * made + 7 * saved, [(3 * made + 7 * saved, 0)]))

    def test_random_plans(self):
        for seed in range(40):
            rng = rng_of(seed)
            job = small_job(rng, 30, 6)
            plan = Plan(some_acts(rng, job, 60), 3)
            if seed % 2:
                plan = plan_of(job, some_layout(rng, job), 1, 1)
            costs = {key: rng.choice([0, 1, 2, 50]) for key in COSTS}
            self.assertEqual(times(plan, **costs), slow_times(plan, **costs))

    def test_answers_are_new(self):
        plan = Plan([(0, make(A))], 1)
        times(plan, **COSTS)[1].clear()
        self.assertEqual(times(plan, **COSTS), (3, [(3, 0)]))


class BestTest(unittest.TestCase):
    def test_the_least_time(self):
        rows = [(1, 0, 0, 9, 50), (2, 1, 1, 9, 40), (3, 2, 2, 9, 45)]
        self.assertEqual(best(rows, 9), 1)
        self.assertEqual(best(rows, 100), 1)

    def test_memory(self):
        rows = [(1, 0, 0, 7, 50), (2, 1, 1, 9, 40), (3, 2, 2, 8, 45)]
        self.assertEqual([best(rows, memory) for memory in (6, 7, 8, 9)], [None, 0, 2, 1])

    def test_the_first_one_of_several(self):
        rows = [(9, 9, 9, 3, 50), (8, 8, 8, 2, 40), (1, 1, 1, 1, 40), (0, 0, 0, 0, 40)]
        self.assertEqual(best(rows, 3), 1)
        self.assertEqual(best(rows, 1), 2)

    def test_no_rows(self):
        self.assertIsNone(best([], 100))
        self.assertIsNone(best([(1, 1, 1, 1, 1)], 0))
        self.assertEqual(best([(1, 1, 1, 0, 0)], 0), 0)

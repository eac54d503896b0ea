import unittest

from asifone.drops import tidy
from asifone.layouts import Layout, ranks_of
from asifone.letters import gives_of, needs_of, wired
from asifone.making import made
from asifone.plans import Plan, plan_of, trace
from asifone.tasks import tasks
from asifone.texts import job_of
from asifone.truths import Truths
from asifone.ways import premises
from tests.slow_plans import slow_tidy, slow_wired
from tests.support import EXAMPLE, LETTERS, WHOLE, live_job, rng_of, small_job, some_layout, told, told_layout
from tests.test_letters import A, B, C, D, make, recv, send

JOB = job_of(LETTERS)
DIRECT = ("direct",)
ACTS = [(0, make(A, B)), (1, recv(7, A, C, A)), (0, ("tell", 3)), (1, ("drop", (A, D))), (5, send(9, A, B)),
        (0, ("load", (B,))), (1, ("save", (C, A)))]


class PlanTest(unittest.TestCase):
    def test_fields(self):
        plan = Plan(ACTS, 2)
        self.assertEqual((plan.acts, plan.ranks), (ACTS, 2))
        self.assertEqual(Plan([], 0).acts, [])

    def test_iteration(self):
        plan = Plan(ACTS, 2)
        self.assertEqual(list(plan), ACTS)
        self.assertEqual([act for _, act in plan], [act for _, act in ACTS])
        self.assertEqual([(one, other) for one in plan for other in plan], [(one, other) for one in ACTS for other in ACTS])
        self.assertEqual(list(Plan([], 3)), [])

    def test_the_list_is_copied(self):
        acts = list(ACTS)
        plan = Plan(acts, 2)
        acts.reverse()
        acts.pop()
        self.assertEqual(list(plan), ACTS)
        self.assertEqual(plan.acts_of(0), [ACTS[0][1], ACTS[2][1], ACTS[5][1]])

    def test_acts_of(self):
        plan = Plan(ACTS, 2)
        self.assertEqual(plan.acts_of(1), [ACTS[1][1], ACTS[3][1], ACTS[6][1]])
        self.assertEqual(plan.acts_of(5), [ACTS[4][1]])
        self.assertEqual(plan.acts_of(3), [])
        plan.acts_of(1).clear()
        self.assertEqual(len(plan.acts_of(1)), 3)


class TraceTest(unittest.TestCase):
    def test_each_kind_of_act(self):
        plan = Plan([(0, make(B, A, C)), (0, send(1, A, B)), (1, recv(0, B, A)), (1, ("save", (A,))), (1, ("drop", (A, B))),
                     (2, ("load", (C, A))), (2, ("tell", 0))], 3)
        self.assertEqual(trace(plan, A), [
            (0, 0, make(A)), (1, 0, send(1, A)), (2, 1, recv(0, A)), (3, 1, ("save", (A,))), (4, 1, ("drop", (A,))),
            (5, 2, ("load", (A,))),
        ])
        self.assertEqual(trace(plan, C), [(0, 0, make(C)), (5, 2, ("load", (C,)))])

    def test_names_that_are_only_needed(self):
        plan = Plan([(0, make(C)), (0, ("tell", 3))], 1)
        self.assertEqual(trace(plan, A), [])
        self.assertEqual(trace(plan, ("los", 3, 0, 1)), [])
        self.assertEqual(trace(Plan([], 0), A), [])

    def test_several_entries_of_one_act(self):
        los = ("los", 0, 0, 1)
        plan = Plan([(0, ("make", ((los, DIRECT), (A, DIRECT), (los, ("join", 0))))), (4, send(9, A, B, A)),
                     (3, ("drop", (B, B)))], 1)
        self.assertEqual(trace(plan, los), [(0, 0, ("make", ((los, DIRECT), (los, ("join", 0)))))])
        self.assertEqual(trace(plan, A), [(0, 0, make(A)), (1, 4, send(9, A, A))])
        self.assertEqual(trace(plan, B), [(1, 4, send(9, B)), (2, 3, ("drop", (B, B)))])

    def test_a_whole_plan(self):
        job = job_of(EXAMPLE)
        plan = plan_of(job, Layout(2, [4], 1, [False] * 9, False, False), 0, 1)
        rows = trace(plan, ("val", 0, 0, 3, 0))
        self.assertEqual([(rank, act[0]) for _, rank, act in rows], [
            (0, "make"), (0, "send"), (1, "recv"), (1, "drop"), (0, "drop"),
        ])
        for at, rank, act in rows:
            self.assertEqual((plan.acts[at][0], plan.acts[at][1][0]), (rank, act[0]))
        kept = list(rows)
        rows.clear()
        self.assertEqual(trace(plan, ("val", 0, 0, 3, 0)), kept)

    def test_steps_are_no_names(self):
        plan = Plan([(0, ("tell", 3))], 1)
        self.assertEqual(trace(plan, ("tell", 3)), [])


class Work:
    """Ranks that do the acts of a plan with words."""

    def __init__(self, case, job):
        self.case, self.job, self.truths = case, job, Truths(job)
        self.held, self.letters, self.saved, self.losses = {}, [], [], []

    def do(self, rank, act):
        own = self.held.setdefault(rank, {})
        for name in needs_of(self.job, act):
            self.case.assertIn(name, own, (rank, act))
        rest = act[-1]
        if act[0] == "make":
            for name, way in rest:
                own[name] = made(self.job, name, way, [own[one] for one in premises(self.job, name, way)])
        elif act[0] == "load":
            own.update({name: self.truths.word(name) for name in rest})
        elif act[0] == "send":
            self.letters.append((rank, act[1], [(name, own[name]) for name in rest]))
        elif act[0] == "recv":
            letter = [one for one in self.letters if one[:2] == (act[1], rank) and [name for name, _ in one[2]] == list(rest)]
            self.letters.remove(letter[0])
            own.update(letter[0][2])
        elif act[0] == "drop":
            for name in rest:
                del own[name]
        elif act[0] == "save":
            self.saved.extend(rest)
        else:
            self.losses.append((rest, own["los", rest, 0, self.job.batch]))
        for name in gives_of(act):
            self.case.assertEqual(own[name], self.truths.word(name), name)


class PlanOfTest(unittest.TestCase):
    def check(self, job, layout, start, steps):
        before = repr((told(job), told_layout(layout)))
        plan = plan_of(job, layout, start, steps)
        self.assertEqual(repr((told(job), told_layout(layout))), before)
        self.assertEqual(plan.ranks, ranks_of(layout))
        work = Work(self, job)
        for rank, act in plan:
            self.assertIn(rank, range(plan.ranks))
            work.do(rank, act)
        self.assertEqual((work.letters, [one for one in work.held.values() if one]), ([], []))
        losses = [(n, work.truths.word(("los", n, 0, job.batch))) for n in range(start, start + steps)]
        self.assertEqual(work.losses, losses)
        cells = [(p, i, j) for p, one in enumerate(job.net.parameters) for i in range(one.rows) for j in range(one.cols)]
        names = [(kind, start + steps, *cell) for kind in ("mom", "par") for cell in cells]
        self.assertEqual(sorted(work.saved), names)

    def test_all_kinds_of_nodes(self):
        job = job_of(WHOLE)
        for layout in (
            Layout(1, [], 1, [True] * 24, False, False), Layout(3, [], 2, [True] * 24, True, True),
            Layout(1, [3, 9], 2, [v % 3 > 0 for v in range(24)], False, True),
            Layout(1, [], 4, [True] * 24, False, False), Layout(3, [11], 1, [False] * 24, True, False),
        ):
            self.check(job, layout, 0, 2)
            self.check(job, layout, 3, 1)

    def test_random_layouts(self):
        for seed in range(60):
            rng = rng_of(seed)
            job = live_job(rng) if seed < 12 else small_job(rng)
            self.check(job, some_layout(rng, job), rng.choice([0, 0, 1, 4]), rng.choice([1, 1, 2, 3]))

    def test_without_parameters(self):
        job = job_of("input 2\ntarget 1\nd = input * input\nloss sum(d)\nbatch 2\nsample 1 2 | 3\nsample 4 5 | 6")
        self.check(job, Layout(2, [1], 1, [True] * 4, True, True), 0, 2)
        self.check(job, Layout(1, [2], 2, [True] * 4, True, True), 5, 1)

    def test_it_is_the_tidy_form_of_the_wired_tasks(self):
        for seed in range(10):
            rng = rng_of(seed)
            job = small_job(rng, 20, 4)
            layout = some_layout(rng, job)
            acts = tasks(job, layout, 1, 1)
            plan = plan_of(job, layout, 1, 1)
            self.assertEqual(list(plan), tidy(job, wired(job, acts)))
            self.assertEqual(list(plan), slow_tidy(job, slow_wired(job, acts)))

    def test_answers_are_new(self):
        job, layout = job_of(EXAMPLE), Layout(2, [4], 1, [False] * 9, False, False)
        kept = list(plan_of(job, layout, 0, 1))
        plan_of(job, layout, 0, 1).acts.clear()
        self.assertEqual(list(plan_of(job, layout, 0, 1)), kept)

import unittest

from asifone.goals import acts_for, needed
from asifone.layouts import Layout
from asifone.tasks import step_tasks, tasks
from asifone.texts import job_of
from tests.slow_plans import SlowTasks
from tests.support import EXAMPLE, WHOLE, rng_of, small_job, some_layout, told, told_layout

JOB = job_of(EXAMPLE)
BIG = job_of(WHOLE)
BARE = job_of("input 2\ntarget 1\nd = input * input\nloss sum(d)\nbatch 2\nsample 1 2 | 3\nsample 4 5 | 6")
CELLS = [(0, 0, 0), (0, 1, 0), (1, 0, 0)]
DIRECT = ("direct",)


def layout(copies=1, stages=(), ways=1, cut=(), spread=False, redo=False, many=9):
    return Layout(copies, list(stages), ways, [v in cut for v in range(many)], spread, redo)


def grd(n, lo, hi):
    return [("grd", n, *cell, lo, hi) for cell in CELLS]


def makes(rank, kind, n, cells=CELLS):
    return (rank, ("make", tuple(((kind, n, *cell), DIRECT) for cell in cells)))


def state(n, cells=CELLS):
    return tuple((kind, n, *cell) for cell in cells for kind in ("par", "mom"))


class StepTest(unittest.TestCase):
    def test_one_rank(self):
        one = layout()
        first, second = needed(JOB, one, [("los", 4, 0, 1)], []), needed(JOB, one, [("los", 4, 0, 2)], [("los", 4, 0, 1)])
        wanted = acts_for(JOB, one, [("los", 4, 0, 1)], [])
        wanted += acts_for(JOB, one, [("los", 4, 0, 2)], [("los", 4, 0, 1)])
        wanted += [(0, ("tell", 4))]
        wanted += acts_for(JOB, one, grd(4, 0, 1), first)
        wanted += acts_for(JOB, one, grd(4, 0, 2), grd(4, 0, 1) + second)
        wanted += [makes(0, "mom", 5), makes(0, "par", 5)]
        self.assertEqual(step_tasks(JOB, one, 4), wanted)
        made = [name for _, act in wanted if act[0] == "make" for name, _ in act[1]]
        self.assertEqual(len(made), len(set(made)))

    def test_copies_and_stages(self):
        # The ranks 0 and 1 have sample 0, the ranks 2 and 3 sample 1; nodes from 4 on lie on 1 and 3.
        one = layout(2, [4])
        first, second = needed(JOB, one, [("los", 4, 0, 1)], []), needed(JOB, one, [("los", 4, 1, 2)], [])
        wanted = acts_for(JOB, one, [("los", 4, 0, 1)], []) + acts_for(JOB, one, [("los", 4, 1, 2)], [])
        wanted += [(1, ("make", ((("los", 4, 0, 2), ("join", 1)),))), (1, ("tell", 4))]
        wanted += acts_for(JOB, one, grd(4, 0, 1), first) + acts_for(JOB, one, grd(4, 1, 2), second)
        joins = tuple((name, ("join", 1)) for name in grd(4, 0, 2))
        wanted += [(0, ("make", joins)), (2, ("make", joins))]
        wanted += [makes(0, "mom", 5), makes(2, "mom", 5), makes(0, "par", 5), makes(2, "par", 5)]
        self.assertEqual(step_tasks(JOB, one, 4), wanted)

    def test_redo(self):
        one = layout(redo=True)
        wanted = acts_for(JOB, one, [("los", 4, 0, 1)], [])
        wanted += acts_for(JOB, one, [("los", 4, 0, 2)], [("los", 4, 0, 1)])
        wanted += [(0, ("tell", 4))]
        wanted += acts_for(JOB, one, grd(4, 0, 1), []) + acts_for(JOB, one, grd(4, 0, 2), grd(4, 0, 1))
        wanted += [makes(0, "mom", 5), makes(0, "par", 5)]
        self.assertEqual(step_tasks(JOB, one, 4), wanted)
        twice = [entry for _, act in wanted if act[0] == "make" for entry in act[1] if entry[0] == ("val", 4, 1, 3, 0)]
        self.assertEqual(len(twice), 2)

    def test_spread(self):
        # Three cells of two copies: the first cell of each parameter of two, and none of one, lie on copy 0.
        one = layout(2, spread=True)
        tail = step_tasks(JOB, one, 4)[-6:]
        whole = [("grd", 4, *cell, 0, 2) for cell in CELLS]
        join = ("join", 1)
        self.assertEqual(tail, [
            (0, ("make", ((whole[0], join),))),
            (1, ("make", ((whole[1], join), (whole[2], join)))),
            makes(0, "mom", 5, CELLS[:1]), makes(1, "mom", 5, CELLS[1:]),
            makes(0, "par", 5, CELLS[:1]), makes(1, "par", 5, CELLS[1:]),
        ])

    def test_the_teller_is_of_the_last_stage(self):
        for one, rank in ((layout(2, [4], 1), 1), (layout(1, [2, 5], 2), 4), (layout(2, [], 2), 0)):
            self.assertEqual([pair for pair in step_tasks(JOB, one, 7) if pair[1][0] == "tell"], [(rank, ("tell", 7))])

    def test_without_parameters(self):
        one = layout(2, many=4)
        wanted = acts_for(BARE, one, [("los", 0, 0, 1)], []) + acts_for(BARE, one, [("los", 0, 1, 2)], [])
        wanted += [(0, ("make", ((("los", 0, 0, 2), ("join", 1)),))), (0, ("tell", 0))]
        self.assertEqual(step_tasks(BARE, one, 0), wanted)
        self.assertEqual(tasks(BARE, one, 0, 1), wanted)
        self.assertEqual(tasks(BARE, one, 3, 2), step_tasks(BARE, one, 3) + step_tasks(BARE, one, 4))

    def test_more_copies_than_samples(self):
        # Such a layout does not fit; its first copy has an empty block.
        one = layout(3)
        self.assertEqual(step_tasks(JOB, one, 1), SlowTasks(JOB, one).step(1))


class TasksTest(unittest.TestCase):
    def test_from_step_0(self):
        one = layout(2, [4])
        wanted = [makes(0, "mom", 0), makes(2, "mom", 0), makes(0, "par", 0), makes(2, "par", 0)]
        wanted += step_tasks(JOB, one, 0) + step_tasks(JOB, one, 1) + [(0, ("save", state(2)))]
        self.assertEqual(tasks(JOB, one, 0, 2), wanted)

    def test_from_a_later_step(self):
        one = layout(2, [4])
        wanted = [(0, ("load", state(3))), (2, ("load", state(3)))] + step_tasks(JOB, one, 3)
        self.assertEqual(tasks(JOB, one, 3, 1), wanted + [(0, ("save", state(4)))])

    def test_loads_and_saves_of_spread_cells(self):
        one = layout(2, spread=True)
        wanted = [(0, ("load", state(3, CELLS[:1]))), (1, ("load", state(3, CELLS[1:])))] + step_tasks(JOB, one, 3)
        wanted += step_tasks(JOB, one, 4)
        wanted += [(0, ("save", state(5, CELLS[:1]))), (1, ("save", state(5, CELLS[1:])))]
        self.assertEqual(tasks(JOB, one, 3, 2), wanted)

    def test_loads_and_saves_of_cut_cells(self):
        # Node 0 is cut, so that the rows of the matrix are; all ways have the other parameter.
        one = layout(1, [], 2, [0])
        acts = tasks(JOB, one, 3, 1)
        self.assertEqual(acts[:2], [(0, ("load", state(3, [CELLS[0], CELLS[2]]))), (1, ("load", state(3, CELLS[1:])))])
        self.assertEqual(acts[-2:], [(0, ("save", state(4, [CELLS[0], CELLS[2]]))), (1, ("save", state(4, [CELLS[1]])))])

    def test_random_layouts(self):
        seen = set()
        for seed in range(50):
            rng = rng_of(seed)
            job = small_job(rng)
            one = some_layout(rng, job)
            start, steps = rng.choice([0, 0, 1, 7, 10 ** 20]), rng.choice([1, 1, 2])
            before = repr((told(job), told_layout(one)))
            self.assertEqual(tasks(job, one, start, steps), SlowTasks(job, one).all(start, steps), seed)
            self.assertEqual(step_tasks(job, one, start), SlowTasks(job, one).step(start), seed)
            self.assertEqual(repr((told(job), told_layout(one))), before)
            seen |= {(kind, worth > 1) for kind, worth in
                     (("copies", one.copies), ("stages", len(one.stages) + 1), ("ways", one.ways),
                      ("spread", one.spread + 1), ("redo", one.redo + 1), ("steps", steps))}
        self.assertEqual(len(seen), 12, seen)

    def test_all_kinds_of_nodes(self):
        for one in (layout(3, [], 2, range(24), True, True, 24), layout(1, [4, 12], 2, [0, 1, 3, 19], many=24)):
            self.assertEqual(tasks(BIG, one, 0, 1), SlowTasks(BIG, one).all(0, 1))

    def test_answers_are_new(self):
        kept = list(tasks(JOB, layout(), 0, 1))
        tasks(JOB, layout(), 0, 1).clear()
        self.assertEqual(tasks(JOB, layout(), 0, 1), kept)

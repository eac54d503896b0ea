import unittest

from asifone.goals import acts_for, needed
from asifone.layouts import Layout
from asifone.texts import job_of
from tests.slow_plans import slow_acts, slow_needed
from tests.support import EXAMPLE, WHOLE, rng_of, small_job, some_layout, some_name, told, told_layout

JOB = job_of(EXAMPLE)
BIG = job_of(WHOLE)
DIRECT = ("direct",)
ONE = Layout(1, [], 1, [False] * 9, False, False)


def val(v, j=0, t=0, n=2):
    return ("val", n, t, v, j)


def inc(v, u, t=0, n=2):
    return ("inc", n, t, v, 0, u)


class NeededTest(unittest.TestCase):
    def test_the_loss_of_a_sample(self):
        # Node 1 is the product with the matrix, node 8 the sum; the parameters are not needed.
        wanted = [val(0), val(0, 1), ("pre", 2, 0, 1, 0, 0, 2), val(1), val(2), val(3), val(4), val(5), val(6), val(7),
                  ("pre", 2, 0, 8, 0, 0, 1), val(8), ("los", 2, 0, 1)]
        self.assertEqual(needed(JOB, ONE, [("los", 2, 0, 1)], []), wanted)

    def test_known_names_hide_their_premises(self):
        self.assertEqual(needed(JOB, ONE, [("los", 2, 0, 1)], [val(8)]), [("los", 2, 0, 1)])
        self.assertEqual(needed(JOB, ONE, [("los", 2, 0, 2)], [("los", 2, 0, 1), val(7, 0, 1)]),
                         [("pre", 2, 1, 8, 0, 0, 1), val(8, 0, 1), ("los", 2, 1, 2), ("los", 2, 0, 2)])
        # A name of which nothing here is made hides nothing.
        self.assertEqual(needed(JOB, ONE, [val(1)], [val(2), ("par", 2, 0, 0, 0), ("los", 2, 0, 1)]),
                         [val(0), val(0, 1), ("pre", 2, 0, 1, 0, 0, 2), val(1)])

    def test_known_goals_and_no_goals(self):
        self.assertEqual(needed(JOB, ONE, [], []), [])
        self.assertEqual(needed(JOB, ONE, [], [val(0)]), [])
        self.assertEqual(needed(JOB, ONE, [val(0), val(5)], [val(5), val(0)]), [])
        self.assertEqual(needed(JOB, ONE, [val(0), val(5)], [val(0)]), [val(5)])

    def test_names_that_occur_twice(self):
        self.assertEqual(needed(JOB, ONE, [val(5), val(0), val(5)], []), [val(0), val(5)])
        self.assertEqual(needed(JOB, ONE, [val(5), val(0), val(5)], [val(0), val(0)]), [val(5)])

    def test_par_and_mom_are_needed_as_goals_only(self):
        par, mom = ("par", 2, 0, 1, 0), ("mom", 2, 0, 1, 0)
        self.assertEqual(needed(JOB, ONE, [par], []), [par])
        self.assertEqual(needed(JOB, ONE, [mom, par], []), needed(JOB, ONE, [mom], []) + [par])
        self.assertEqual(needed(JOB, ONE, [par, mom], [mom]), [par])
        grd = [("grd", 1, 0, 1, 0, 0, 2)]
        self.assertEqual(needed(JOB, ONE, [mom], []), needed(JOB, ONE, grd, []) + [mom])
        self.assertEqual(needed(JOB, ONE, [mom], grd), [mom])
        self.assertEqual(needed(JOB, ONE, [("par", 0, 0, 0, 0), ("mom", 0, 0, 0, 0)], []),
                         [("mom", 0, 0, 0, 0), ("par", 0, 0, 0, 0)])
        self.assertEqual(needed(JOB, ONE, [val(0), val(2), par], [val(1)]), [par, val(0), val(2)])
        self.assertEqual(needed(JOB, ONE, [val(3)], [val(2)]), [val(3)])

    def test_the_ways_are_those_of_the_layout(self):
        name = ("pre", 1, 0, 20, 0, 0, 9)
        terms = [("val", 1, 0, 19, j) for j in range(9)]
        whole = Layout(1, [], 2, [False] * 24, False, False)
        cut = Layout(1, [], 2, [v == 19 for v in range(24)], False, False)
        self.assertEqual(needed(BIG, whole, [name], terms), [name])
        self.assertEqual(needed(BIG, cut, [name], terms),
                         [("pre", 1, 0, 20, 0, 0, 4), ("pre", 1, 0, 20, 0, 4, 9), name])
        self.assertEqual(needed(JOB, ONE, [inc(3, 5)], []), [inc(3, 9), inc(3, 5)])

    def test_random_goals(self):
        for seed in range(120):
            rng = rng_of(seed)
            job = small_job(rng)
            layout = some_layout(rng, job)
            goals = [name for name in (some_name(rng, job, (0, 2, 2)) for _ in range(rng.randrange(9)))
                     if name[0] not in ("pre", "bac", "grd", "los") or name[-2] < name[-1]]
            names = needed(job, layout, goals, [])
            known = rng.sample(names, min(len(names), rng.choice([0, 3, 9]))) + goals[:rng.choice([0, 0, 1])]
            before = repr((told(job), told_layout(layout), goals, known))
            wanted = slow_needed(job, layout, goals, known)
            self.assertEqual(needed(job, layout, goals + goals[:2], known + known[:2]), wanted)
            self.assertEqual(acts_for(job, layout, goals + goals[:2], known + known[:2]),
                             slow_acts(job, layout, goals, known))
            self.assertEqual(repr((told(job), told_layout(layout), goals, known)), before)


class ActsTest(unittest.TestCase):
    def test_one_rank(self):
        acts = acts_for(JOB, ONE, [val(3)], [])
        self.assertEqual(acts, [
            (0, ("make", ((val(0), DIRECT), (val(0, 1), DIRECT)))),
            (0, ("make", ((("pre", 2, 0, 1, 0, 0, 2), DIRECT),))),
            (0, ("make", ((val(1), DIRECT),))),
            (0, ("make", ((val(2), DIRECT),))),
            (0, ("make", ((val(3), DIRECT),))),
        ])

    def test_no_acts(self):
        self.assertEqual(acts_for(JOB, ONE, [], []), [])
        self.assertEqual(acts_for(JOB, ONE, [val(3)], [val(3)]), [])

    def test_groups_of_several_ranks(self):
        # Node 0 has four elements in one row; the ways 0 and 1 have two each, and all ways have node 16.
        layout = Layout(1, [16], 2, [v == 0 for v in range(24)], False, False)
        known = []
        goals = [val(0, j) for j in (3, 2, 1, 0)] + [val(16, 1)]
        self.assertEqual(acts_for(BIG, layout, goals, known), [
            (0, ("make", ((val(0), DIRECT), (val(0, 1), DIRECT)))),
            (1, ("make", ((val(0, 2), DIRECT), (val(0, 3), DIRECT)))),
            (2, ("make", ((val(16, 1), DIRECT),))),
            (3, ("make", ((val(16, 1), DIRECT),))),
        ])

    def test_ranks_that_make_none_of_a_group(self):
        layout = Layout(1, [], 4, [True] * 24, False, False)
        self.assertEqual(acts_for(BIG, layout, [val(0, 2), val(0)], []),
                         [(0, ("make", ((val(0), DIRECT),))), (2, ("make", ((val(0, 2), DIRECT),)))])
        two = Layout(2, [], 1, [False] * 24, False, False)
        self.assertEqual(acts_for(BIG, two, [val(0, 0, 2), val(0, 0, 1)], []),
                         [(1, ("make", ((val(0, 0, 1), DIRECT), (val(0, 0, 2), DIRECT))))])

    def test_third_numbers_separate_groups(self):
        layout = Layout(1, [], 2, [v == 19 for v in range(24)], False, False)
        terms = [("val", 1, 0, 19, j) for j in range(9)]
        name = ("pre", 1, 0, 20, 0)
        self.assertEqual(acts_for(BIG, layout, [name + (0, 9)], terms), [
            (0, ("make", ((name + (0, 4), DIRECT),))),
            (1, ("make", ((name + (4, 9), DIRECT),))),
            (0, ("make", ((name + (0, 9), ("join", 4)),))),
            (1, ("make", ((name + (0, 9), ("join", 4)),))),
        ])
        self.assertEqual(acts_for(JOB, ONE, [inc(3, 5)], []),
                         [(0, ("make", ((inc(3, 9), DIRECT),))), (0, ("make", ((inc(3, 5), ("skip", 9)),)))])

    def test_steps_do_not_separate_groups(self):
        goals = [val(5, 0, 0, 3), val(0, 0, 1, 3), val(5, 0, 1, 1), val(0, 0, 0, 4)]
        self.assertEqual(acts_for(JOB, ONE, goals, []), [
            (0, ("make", ((val(0, 0, 1, 3), DIRECT), (val(0, 0, 0, 4), DIRECT)))),
            (0, ("make", ((val(5, 0, 1, 1), DIRECT), (val(5, 0, 0, 3), DIRECT)))),
        ])

    def test_par_and_mom(self):
        layout = Layout(2, [4], 1, [False] * 9, False, False)
        goals = [("par", 0, 0, 1, 0), ("mom", 0, 1, 0, 0), ("par", 0, 0, 0, 0)]
        self.assertEqual(acts_for(JOB, layout, goals, []), [
            (0, ("make", ((("mom", 0, 1, 0, 0), DIRECT),))),
            (2, ("make", ((("mom", 0, 1, 0, 0), DIRECT),))),
            (0, ("make", ((("par", 0, 0, 0, 0), DIRECT), (("par", 0, 0, 1, 0), DIRECT)))),
            (2, ("make", ((("par", 0, 0, 0, 0), DIRECT), (("par", 0, 0, 1, 0), DIRECT)))),
        ])

    def test_answers_are_new(self):
        for rule in (needed, acts_for):
            kept = list(rule(JOB, ONE, [val(3)], []))
            rule(JOB, ONE, [val(3)], []).clear()
            self.assertEqual(rule(JOB, ONE, [val(3)], []), kept)

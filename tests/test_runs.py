"""Runs of fleets: which events they choose."""

import unittest

from asifone.files import file_of
from asifone.fleets import Fleet
from asifone.layouts import Layout
from asifone.texts import job_of
from asifone.words import mixed, unsigned
from tests.slow_fleet import all_of
from tests.support import LETTERS
from tests.test_fleets import ALONE, FOUR, JOB, PAIR, SPREAD, WRONG, advanced, finish, trained


def number(seed, i=0):
    """The pair of w modulo 16 and of w divided by 16."""
    w = unsigned(mixed(seed, [5, i]))
    return w % 16, w // 16


def seeds(rule):
    """Some seeds, above and below 0, whose first number has this rule."""
    return [seed for k in range(3000) for seed in (k, -k - 1) if rule(*number(seed))][:12]


class RunsTest(unittest.TestCase):
    def first(self, fleet, layouts, steps, seed):
        """The first event of a run, which is undone."""
        before = all_of(fleet)
        events = fleet.drive(layouts, steps, seed, count=1)
        self.assertTrue(fleet.undo())
        self.assertEqual(all_of(fleet), before)
        return events

    def test_start(self):
        fleet = Fleet(JOB, 4)
        for seed in seeds(lambda kind, a: kind > 4) + seeds(lambda kind, a: kind in (0, 3, 4)):
            a = number(seed)[1]
            layouts = [ALONE, PAIR, FOUR]
            self.assertEqual(self.first(fleet, layouts, 2, seed), [("start", layouts[a % 3], 2)])
            self.assertIs(self.first(fleet, layouts, 2, seed)[0][1], layouts[a % 3])
            # From that number on, then from 0.
            layouts = [WRONG, PAIR, WRONG]
            self.assertEqual(self.first(fleet, layouts, 1, seed), [("start", PAIR, 1)])
            layouts = [ALONE, WRONG, WRONG, PAIR]
            self.assertEqual(self.first(fleet, layouts, 1, seed), [("start", PAIR if a % 4 else ALONE, 1)])

    def test_the_end_of_a_run(self):
        fleet = Fleet(JOB, 1)
        for seed in seeds(lambda kind, a: kind != 1):
            self.assertEqual(fleet.drive([WRONG], 1, seed, count=9), [])
            self.assertEqual(fleet.drive([PAIR, FOUR], 1, seed, count=9), [])
        for seed in seeds(lambda kind, a: kind == 1 and a % 2 == 0):
            events = fleet.drive([WRONG], 1, seed, count=9)
            self.assertEqual(events[:2], [("crash", 0), ("up", 0)])
            while events[-1] == ("crash", 0):
                events.pop()
            self.assertLess(len(events), 9)
            fleet.undo()

    def test_crash(self):
        fleet = Fleet(JOB, 4)
        fleet.start(FOUR, 1)
        for seed in seeds(lambda kind, a: kind == 1 and a % 5 < 4):
            self.assertEqual(self.first(fleet, [FOUR], 1, seed), [("crash", number(seed)[1] % 5)])
        for seed in seeds(lambda kind, a: kind == 1 and a % 5 == 4):
            ready = [rank for rank in self.order(seed, 4) if rank in fleet.ready()]
            self.assertEqual(self.first(fleet, [FOUR], 1, seed), [("go", ready[0])])

    def order(self, seed, many):
        a = number(seed)[1]
        return [(a + k) % many for k in range(many)]

    def test_go(self):
        fleet = Fleet(JOB, 6)
        fleet.start(FOUR, 1)
        self.assertEqual(fleet.ready(), [0, 2])
        for seed in seeds(lambda kind, a: kind > 4):
            self.assertEqual(self.first(fleet, [FOUR], 1, seed),
                             [("go", {0: 0, 1: 2, 2: 2, 3: 0}[number(seed)[1] % 4])])
        # The letters and files that a number names are not there.
        for seed in seeds(lambda kind, a: kind in (0, 3, 4)):
            self.assertEqual(self.first(fleet, [FOUR], 1, seed)[0][0], "go")

    def test_double_and_lose(self):
        fleet = Fleet(JOB, 4)
        fleet.start(FOUR, 1)
        for rank in (0, 2):
            fleet.go(advanced(fleet, "send", [rank]))
        self.assertEqual(len(fleet.letters()), 2)
        for seed in seeds(lambda kind, a: kind == 0 and a % 3 < 2):
            self.assertEqual(self.first(fleet, [FOUR], 1, seed), [("double", number(seed)[1] % 3)])
        for seed in seeds(lambda kind, a: kind == 0 and a % 3 == 2) + seeds(lambda kind, a: kind == 4):
            self.assertEqual(self.first(fleet, [FOUR], 1, seed)[0][0], "go")
        fleet.start(FOUR, 1)
        for seed in seeds(lambda kind, a: kind == 4 and a % 3 < 2):
            self.assertEqual(self.first(fleet, [FOUR], 1, seed), [("lose", number(seed)[1] % 3)])

    def test_tear(self):
        job = job_of("input 1\ntarget 1\nparam w 1 1 same 3\nloss sum(input @ w)\nsample 2 | 3")
        layout = Layout(1, [], 1, [False] * 3, False, False)
        fleet = Fleet(job, 4)
        fleet.start(layout, 1)
        size = len(file_of([(name, 0) for name in fleet.next_act(advanced(fleet, "save"))[1]]))
        self.assertEqual(size, 29)
        torn = seeds(lambda kind, a: kind == 2 and a % 5 == 0 and a // 8 % 64 < size)
        for seed in torn:
            a = number(seed)[1]
            self.assertEqual(self.first(fleet, [layout], 1, seed), [("tear", 0, a // 8 % 64)])
        whole = seeds(lambda kind, a: kind == 2 and a % 5 == 0 and a // 8 % 64 >= size)
        others = seeds(lambda kind, a: kind == 2 and a % 5 > 0)
        for seed in whole + others:
            self.assertEqual(self.first(fleet, [layout], 1, seed), [("go", 0)])
        self.assertTrue(torn and whole and others)

    def test_sweep(self):
        fleet = trained(3)
        for seed in seeds(lambda kind, a: kind == 3 and a % 4 == 0):
            self.assertEqual(self.first(fleet, [ALONE], 1, seed), [("sweep", 0)])
        for seed in seeds(lambda kind, a: kind == 3 and a % 4 > 0):
            self.assertEqual(self.first(fleet, [ALONE], 1, seed), [("start", ALONE, 1)])

    def test_commit_up_and_start(self):
        fleet = Fleet(JOB, 3)
        fleet.start(SPREAD, 2)
        finish(fleet)
        fleet.crash(2)
        fleet.crash(1)
        plain = seeds(lambda kind, a: kind > 4)
        for seed in plain:
            # It is the number of steps of the run that counts.
            self.assertEqual(self.first(fleet, [ALONE], 2, seed), [("commit", 2)])
            self.assertEqual(self.first(fleet, [ALONE], 1, seed), [("up", 1)])
        fleet.commit(2)
        for seed in plain:
            self.assertEqual(self.first(fleet, [ALONE], 2, seed), [("up", 1)])
        fleet.rank_up(1)
        for seed in plain:
            self.assertEqual(self.first(fleet, [ALONE], 2, seed), [("up", 2)])
        fleet.rank_up(2)
        for seed in plain:
            self.assertEqual(self.first(fleet, [ALONE], 2, seed), [("start", ALONE, 2)])

    def test_the_number_of_the_event_counts(self):
        fleet = Fleet(JOB, 4)
        events = fleet.drive([ALONE, PAIR, FOUR], 1, -5, count=40)
        other = Fleet(JOB, 4)
        for event in events:
            other.do(event)
        self.assertEqual(all_of(other), all_of(fleet))
        self.assertEqual(len(events), 40)
        again = Fleet(JOB, 4)
        self.assertEqual(again.drive([ALONE, PAIR, FOUR], 1, -5, count=17), events[:17])

    def test_a_run_of_a_job_without_letters(self):
        job = job_of(LETTERS)
        fleet = Fleet(job, 1)
        layout = Layout(1, [], 1, [False] * 4, False, False)
        # Without parameters every step is stored, so that a run begins with a commit.
        seed = seeds(lambda kind, a: kind > 4)[0]
        self.assertEqual(fleet.drive([layout], 3, seed, count=1), [("commit", 3)])
        self.assertEqual(self.first(fleet, [layout], 3, seed), [("start", layout, 3)])

    def test_arguments_are_left_alone(self):
        layouts = [WRONG, FOUR, ALONE]
        kept = list(layouts)
        Fleet(JOB, 4).drive(layouts, 1, 3, count=50)
        self.assertEqual(layouts, kept)

"""Fleets against a slow fleet, event by event."""

import unittest

from asifone.errors import EventError
from asifone.fleets import Fleet
from asifone.layouts import Layout
from asifone.store import needed_files
from tests.slow_fleet import SlowFleet, all_of
from tests.support import rng_of, some_layout, some_word, tiny_job, told, told_layout


def wrong_layout(rng, job):
    return Layout(rng.choice([0, 1, 5]), [], rng.choice([1, 5, 7]), [True] * len(job.net.nodes), False, False)


def some_event(rng, job, slow, layouts):
    """An event that often can happen."""
    ranks = len(slow.up)
    rank = rng.choice([-1, ranks, rng.randrange(ranks), rng.randrange(ranks)])
    letter = rng.randrange(-1, len(slow.letters) + 1)
    kind = rng.choice(["go"] * 60 + ["double", "lose", "crash", "tear", "up", "up", "start", "commit", "sweep"])
    saving = [one for one in range(ranks) if (slow.next_act(one) or [0])[0] == "save"]
    if kind == "tear" or saving and rng.randrange(6) == 0:
        return ("tear", rng.choice(saving) if saving else rank, rng.choice([0, 5, 30, 60, 10 ** 9]))
    if kind == "go" and rng.randrange(20):
        ready = [one for one in range(ranks) if slow.reason(("go", one)) is None]
        if ready:
            return ("go", rng.choice(ready))
        kind = rng.choice(["start", "start", "commit", "commit", "up", "up", "sweep", "lose"])
    if kind == "start":
        layout = wrong_layout(rng, job) if rng.randrange(9) == 0 else rng.choice(layouts)
        return (kind, layout, rng.choice([0, -1, 1, 1, 1, 2]))
    if kind == "commit":
        return (kind, slow.base + rng.choice([0, 1, 1, 1, 2]))
    if kind == "sweep":
        return (kind, rng.randrange(-1, len(slow.files) + 1))
    return (kind, letter if kind in ("double", "lose") else rank)


METHODS = {"up": "rank_up"}


class RandomFleetsTest(unittest.TestCase):
    def same(self, fleet, slow):
        self.assertEqual(all_of(fleet), slow.told())

    def attempt(self, fleet, event, through):
        """What comes of an event by its own method, or None through do."""
        if through:
            return fleet.do(event)
        return getattr(fleet, METHODS.get(event[0], event[0]))(*event[1:])

    def test_single_events(self):
        reasons = set()
        for seed in range(40):
            rng = rng_of(seed)
            job = tiny_job(rng)
            ranks = rng.randrange(1, 7)
            fleet, slow = Fleet(job, ranks), SlowFleet(job, ranks)
            layouts = [some_layout(rng, job) for _ in range(3)] + [Layout(1, [], 1, [False] * len(job.net.nodes), 0, 0)]
            self.same(fleet, slow)
            for _ in range(200):
                event = some_event(rng, job, slow, layouts)
                self.assertEqual(fleet.can(event), slow.reason(event), event)
                reason, outcome = slow.try_event(event)
                through = rng.randrange(3) == 0
                if reason is None:
                    self.assertEqual(self.attempt(fleet, event, through), None if through else outcome, event)
                else:
                    with self.assertRaises(EventError) as caught:
                        self.attempt(fleet, event, through)
                    self.assertEqual(caught.exception.reason, reason, event)
                if rng.randrange(12) == 0:
                    self.assertEqual(fleet.undo(), slow.undo())
                self.same(fleet, slow)
                reasons.add((event[0], reason))
            self.check_store(fleet, slow, job)
        self.assertEqual(len(reasons), 9 + 22, sorted(map(repr, reasons)))

    def check_store(self, fleet, slow, job):
        for step in range(slow.commits[0] + 3):
            state, wanted = fleet.restore(step), slow.state(step)
            self.assertEqual(state and (state.cells, state.moments), wanted)
            self.assertEqual(fleet.needed(step), needed_files(job, slow.files, step))

    def test_runs(self):
        kinds = set()
        for seed in range(40):
            rng = rng_of(seed)
            job = tiny_job(rng)
            ranks = rng.randrange(1, 7)
            fleet, slow = Fleet(job, ranks), SlowFleet(job, ranks)
            layouts = [some_layout(rng, job) for _ in range(rng.randrange(1, 4))]
            layouts += [Layout(1, [], 1, [False] * len(job.net.nodes), 0, 0)] if seed % 3 else []
            before = repr((told(job), [told_layout(one) for one in layouts]))
            for _ in range(12):
                number, count, steps = some_word(rng), rng.choice([0, 1, 5, 40, 400]), rng.choice([1, 1, 1, 2])
                events = fleet.drive(layouts, steps, number, count=count)
                self.assertEqual(events, slow.drive(layouts, steps, number, count))
                self.same(fleet, slow)
                if rng.randrange(6) == 0:
                    self.assertEqual(fleet.undo(), slow.undo())
                    self.same(fleet, slow)
                kinds |= {event[0] for event in events}
            self.check_store(fleet, slow, job)
            self.assertEqual(repr((told(job), [told_layout(one) for one in layouts])), before)
        self.assertEqual(len(kinds), 9, kinds)

"""What holds whatever happens to a fleet."""

import unittest

from asifone.errors import FileError
from asifone.fleets import Fleet
from asifone.layouts import Layout, fits, ranks_of
from asifone.printed import printed
from asifone.shards import facts_of
from asifone.texts import job_of
from asifone.truths import Truths
from tests.support import EXAMPLE, WHOLE, rng_of, some_layout, some_word, tiny_job, told
from tests.test_fleets import finish


def plain_layout(job):
    return Layout(1, [], 1, [False] * len(job.net.nodes), False, False)


def told_state(state):
    return state.cells, state.moments


class WholeTest(unittest.TestCase):
    def facts(self, fleet):
        """All facts that ranks hold, letters carry and files have."""
        result = [fact for rank in range(len(fleet.ranks())) for fact in fleet.held_by(rank)]
        result += [fact for letter in fleet.letters() for fact in letter[3]]
        for data in fleet.files():
            try:
                result += facts_of(data)
            except FileError:
                pass
        return result

    def check(self, fleet, truths):
        """Every word is that of the one process."""
        job = truths.job
        for name, word in self.facts(fleet):
            self.assertEqual(word, truths.word(name), name)
        for step, loss in fleet.told():
            self.assertEqual(loss, truths.word(("los", step, 0, job.batch)))
        last = fleet.commits()[0]
        self.assertIsNotNone(fleet.restore(last))
        for step in {*fleet.commits(), *range(last + 3)} if last < 99 else {last}:
            state = fleet.restore(step)
            if state is not None:
                self.assertEqual(told_state(state), told_state(truths.state(step)))

    def check_work(self, fleet, many, end):
        """Somebody can go, unless all acts are done; then the end of the plan can be committed, if it is later."""
        rows = fleet.ranks()
        for rank, row in enumerate(rows):
            act = fleet.next_act(rank)
            if act is not None and act[0] != "recv":
                self.assertIn(rank, fleet.ready())
        if many and all(row[1] == fleet.present for row in rows[:many]):
            if fleet.remaining() > 0:
                self.assertTrue(fleet.ready())
            elif fleet.commits()[0] < end:
                self.assertIsNone(fleet.can(("commit", end)))

    def test_runs_with_all_events(self):
        kinds, commits = set(), 0
        for seed in range(40):
            rng = rng_of(seed)
            job = tiny_job(rng) if seed else job_of(EXAMPLE)
            truths, fleet = Truths(job), Fleet(job, rng.randrange(1, 7))
            layouts = [plain_layout(job)] + [some_layout(rng, job) for _ in range(3)]
            many = end = 0
            for _ in range(14):
                old, losses = fleet.commits(), fleet.told()
                last = old[0]
                events = fleet.drive(layouts, rng.choice([1, 1, 2]), some_word(rng), count=rng.choice([1, 20, 150]))
                kinds |= {event[0] for event in events}
                for event in events:
                    if event[0] == "start":
                        many, end = ranks_of(event[1]), last + event[2]
                    last = event[1] if event[0] == "commit" else last
                # Neither a commit nor a reported loss is taken back.
                self.assertEqual(fleet.commits()[-len(old):], old)
                self.assertEqual(fleet.told()[:len(losses)], losses)
                self.check(fleet, truths)
                self.check_work(fleet, many, end)
            commits += len(fleet.commits()) - 1
        self.assertEqual(len(kinds), 9, kinds)
        self.assertGreater(commits, 100)

    def test_generations_end_in_whatever_order(self):
        for seed in range(60):
            rng = rng_of(seed)
            job = tiny_job(rng) if seed % 20 else job_of(WHOLE)
            truths, fleet, layout = Truths(job), Fleet(job, 6), some_layout(rng, job)
            steps = rng.choice([1, 2])
            for start in (0, steps):
                fleet.start(layout, steps)
                favourite = rng.randrange(6)
                while fleet.remaining() > 0:
                    if rng.randrange(30) == 0:
                        self.check_work(fleet, ranks_of(layout), start + steps)
                    ready = fleet.ready()
                    fleet.go(favourite if favourite in ready else rng.choice(ready))
                    if rng.randrange(20) == 0:
                        favourite = rng.randrange(6)
                self.check_work(fleet, ranks_of(layout), start + steps)
                self.assertEqual(fleet.letters(), [])
                self.assertEqual([facts for facts in map(fleet.held_by, range(6)) if facts], [])
                fleet.commit(start + steps)
                self.check(fleet, truths)
            losses = [(n, truths.word(("los", n, 0, job.batch))) for n in range(2 * steps)]
            self.assertEqual(fleet.told(), losses)

    def test_words_while_a_generation_works(self):
        for seed in range(8):
            rng = rng_of(seed)
            job = tiny_job(rng)
            truths, fleet, layout = Truths(job), Fleet(job, 6), some_layout(rng, job)
            fleet.start(layout, 2)
            while fleet.remaining() > 0:
                if fleet.letters() and rng.randrange(9) == 0:
                    fleet.double(rng.randrange(len(fleet.letters())))
                fleet.go(rng.choice(fleet.ready()))
                self.check(fleet, truths)

    def test_any_situation_can_go_on(self):
        for seed in range(25):
            rng = rng_of(seed)
            job = tiny_job(rng)
            truths, fleet = Truths(job), Fleet(job, 6)
            layout, steps = some_layout(rng, job), rng.choice([1, 2, 3])
            fleet.drive([some_layout(rng, job) for _ in range(3)], 1, some_word(rng), count=rng.randrange(300))
            for rank, row in enumerate(fleet.ranks()):
                if not row[0]:
                    fleet.rank_up(rank)
            self.assertTrue(fits(job, layout))
            start, before = fleet.commits()[0], fleet.told()
            fleet.start(layout, steps)
            finish(fleet)
            fleet.commit(start + steps)
            losses = [(n, truths.word(("los", n, 0, job.batch))) for n in range(start, start + steps)]
            self.assertEqual(fleet.told(), before + losses)
            self.assertEqual(told_state(fleet.restore(start + steps)), told_state(truths.state(start + steps)))

    def test_two_layouts_end_with_the_same(self):
        for seed in range(12):
            rng = rng_of(seed)
            job = tiny_job(rng)
            ends = []
            for layout in (plain_layout(job), some_layout(rng, job), some_layout(rng, job)):
                fleet = Fleet(job, 6)
                fleet.start(layout, 3)
                finish(fleet)
                fleet.commit(3)
                ends.append((fleet.told(), told_state(fleet.restore(3)), fleet.commits()))
            self.assertEqual(ends[0], ends[1])
            self.assertEqual(ends[0], ends[2])

    def test_a_job_that_is_read_back_goes_the_same_way(self):
        for seed in range(12):
            rng = rng_of(seed)
            job = tiny_job(rng)
            again = job_of(printed(job))
            self.assertEqual(told(again), told(job))
            layouts, number = [some_layout(rng, job) for _ in range(3)], some_word(rng)
            one, other = Fleet(job, 5), Fleet(again, 5)
            self.assertEqual(one.drive(layouts, 1, number, count=300), other.drive(layouts, 1, number, count=300))
            self.assertEqual((one.told(), one.commits(), one.files(), one.letters()),
                             (other.told(), other.commits(), other.files(), other.letters()))

    def test_changing_layouts_crashes_and_torn_files(self):
        job = job_of(EXAMPLE)
        truths, fleet = Truths(job), Fleet(job, 4)
        layouts = [Layout(2, [4], 1, [True] * 9, True, False), Layout(1, [2, 5], 1, [True] * 9, False, True),
                   Layout(2, [], 2, [True] * 9, False, False)]
        rng = rng_of(7)
        for round_ in range(20):
            start = fleet.commits()[0]
            fleet.start(layouts[round_ % 3], 1)
            while fleet.remaining() > 0:
                rank = rng.choice(fleet.ready())
                if fleet.next_act(rank)[0] == "save" and rng.randrange(4) == 0:
                    size = rng.randrange(20)
                    fleet.tear(rank, size)
                    break
                fleet.go(rank)
            self.check(fleet, truths)
            if fleet.remaining() == 0:
                fleet.commit(start + 1)
            for rank, row in enumerate(fleet.ranks()):
                if not row[0]:
                    fleet.rank_up(rank)
            for place in reversed(range(len(fleet.files()))):
                if fleet.can(("sweep", place)) is None:
                    fleet.sweep(place)
            self.check(fleet, truths)
        self.assertGreater(fleet.commits()[0], 3)
        self.assertGreater(20, fleet.commits()[0])

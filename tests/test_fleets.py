"""Each event of a fleet with its reasons, and undo."""

import unittest

from asifone.errors import AsifoneError, EventError
from asifone.files import file_of
from asifone.fleets import Fleet
from asifone.layouts import Layout
from asifone.plans import plan_of
from asifone.process import state_at
from asifone.shards import facts_of
from asifone.texts import job_of
from asifone.truths import truth
from tests.slow_fleet import all_of
from tests.support import EXAMPLE

JOB = job_of(EXAMPLE)
ALONE = Layout(1, [], 1, [False] * 9, False, False)
# Two copies; the ranks 0 and 2 have the nodes before node 4.
FOUR = Layout(2, [4], 1, [False] * 9, False, False)
PAIR = Layout(1, [4], 1, [False] * 9, False, False)
SPREAD = Layout(2, [], 1, [False] * 9, True, False)
WRONG = Layout(3, [], 1, [False] * 9, False, False)


def finish(fleet):
    """Lets all ranks do all their acts."""
    while fleet.ready():
        fleet.go(fleet.ready()[0])


def trained(steps=1, layout=ALONE, ranks=4):
    """A fleet that has committed so many steps."""
    fleet = Fleet(JOB, ranks)
    for step in range(steps):
        fleet.start(layout, 1)
        finish(fleet)
        fleet.commit(step + 1)
    return fleet


def advanced(fleet, kind, ranks=range(6)):
    """Lets these ranks go until the next act of one of them is of this kind; that rank."""
    while True:
        ready = [rank for rank in fleet.ready() if rank in ranks]
        for rank in ready:
            if fleet.next_act(rank)[0] == kind:
                return rank
        fleet.go(ready[0])


def finish_without_save(fleet, rank):
    """Lets all ranks do all their acts, but this one only until it would save."""
    while True:
        able = [one for one in fleet.ready() if one != rank or fleet.next_act(one)[0] != "save"]
        if not able:
            break
        fleet.go(able[0])


class FleetTest(unittest.TestCase):
    def refused(self, fleet, event, reason):
        """An event that cannot happen, by do and by its own method; the fleet stays as it is."""
        before = all_of(fleet)
        method = {"up": "rank_up"}.get(event[0], event[0])
        self.assertEqual(fleet.can(event), reason)
        for attempt in (lambda: fleet.do(event), lambda: getattr(fleet, method)(*event[1:])):
            with self.assertRaises(EventError) as caught:
                attempt()
            self.assertEqual(caught.exception.reason, reason)
            self.assertIsInstance(caught.exception, AsifoneError)
        self.assertEqual(all_of(fleet), before)

    def done(self, fleet, event):
        """An event that happens, by do."""
        self.assertIsNone(fleet.can(event))
        self.assertIsNone(fleet.do(event))


class BeginningTest(FleetTest):
    def test_a_new_fleet(self):
        fleet = Fleet(JOB, 3)
        self.assertEqual(all_of(fleet), {
            "present": 0, "ranks": [(True, 0, 0, 0, 0)] * 3, "ready": [], "remaining": 0, "held": [[], [], []],
            "letters": [], "files": [], "commits": [0], "told": [], "next": [None, None, None],
        })
        state, first = fleet.restore(0), state_at(JOB, 0)
        self.assertEqual((state.cells, state.moments), (first.cells, first.moments))
        self.assertIsNone(fleet.restore(1))
        self.assertEqual(fleet.needed(0), ([], []))
        self.assertIsNone(fleet.needed(1))
        self.assertFalse(fleet.undo())


class GoTest(FleetTest):
    def test_all_acts_of_a_plan(self):
        fleet = Fleet(JOB, 4)
        self.assertEqual(fleet.start(FOUR, 1), 1)
        plan = plan_of(JOB, FOUR, 0, 1)
        self.assertEqual(fleet.remaining(), len(plan.acts))
        done = [0] * 4
        for rank, act in plan:
            self.assertEqual(fleet.next_act(rank), act)
            self.assertIsNone(fleet.can(("go", rank)))
            words = 1 if act[0] == "tell" else len(act[-1])
            other = act[1] if act[0] in ("send", "recv", "tell") else None
            self.assertEqual(fleet.go(rank), (act[0], words, other))
            done[rank] += 1
            rows = [(True, 1, done[one], len(plan.acts_of(one)) - done[one]) for one in range(4)]
            self.assertEqual([row[:4] for row in fleet.ranks()], rows)
            self.assertEqual(fleet.remaining(), len(plan.acts) - sum(done))
        self.assertEqual((fleet.remaining(), fleet.ready(), fleet.letters()), (0, [], []))
        self.assertEqual([fleet.next_act(rank) for rank in range(4)], [None] * 4)
        self.assertEqual(fleet.told(), [(0, truth(JOB, ("los", 0, 0, 2)))])

    def test_what_acts_do(self):
        fleet = trained()
        fleet.start(PAIR, 1)
        cells = [(0, 0, 0), (0, 1, 0), (1, 0, 0)]
        names = [(kind, 1, *cell) for cell in cells for kind in ("par", "mom")]
        facts = [(name, truth(JOB, name)) for name in names]
        self.assertEqual(fleet.go(0), ("load", 6, None))
        self.assertEqual(fleet.held_by(0), facts)
        more = [(("val", 1, 0, 0, j), truth(JOB, ("val", 1, 0, 0, j))) for j in range(2)]
        self.assertEqual(fleet.go(0), ("make", 2, None))
        self.assertEqual(fleet.held_by(0), facts + more)
        self.assertEqual(advanced(fleet, "send"), 0)
        held = fleet.held_by(0)
        self.assertEqual(fleet.go(0), ("send", 1, 1))
        name = ("val", 1, 0, 3, 0)
        letter = (2, 0, 1, [(name, truth(JOB, name))])
        self.assertEqual((fleet.letters(), fleet.held_by(0)), ([letter], held))
        self.assertEqual(fleet.go(1), ("recv", 1, 0))
        self.assertEqual((fleet.letters(), fleet.held_by(1)), ([], letter[3]))
        self.assertEqual(advanced(fleet, "tell"), 1)
        self.assertEqual(fleet.go(1), ("tell", 1, 1))
        self.assertEqual(fleet.told()[-1], (1, truth(JOB, ("los", 1, 0, 2))))
        self.assertEqual(fleet.go(1), ("drop", 1, None))
        self.assertNotIn(("los", 1, 0, 2), [name for name, _ in fleet.held_by(1)])
        self.assertEqual(advanced(fleet, "save"), 0)
        files = fleet.files()
        self.assertEqual(fleet.go(0), ("save", 6, None))
        names = [(kind, 2, *cell) for cell in cells for kind in ("par", "mom")]
        self.assertEqual(fleet.files(), files + [file_of([(name, truth(JOB, name)) for name in names])])

    def test_reasons(self):
        fleet = Fleet(JOB, 4)
        for rank in (-1, 4, 9):
            self.refused(fleet, ("go", rank), "no such rank")
        self.refused(fleet, ("go", 0), "rank is not at work")
        fleet.crash(0)
        self.refused(fleet, ("go", 0), "rank is down")
        fleet.rank_up(0)
        fleet.start(PAIR, 1)
        self.refused(fleet, ("go", 1), "letter is not there")
        self.refused(fleet, ("go", 2), "rank is not at work")
        self.assertEqual(fleet.ready(), [0])
        fleet.crash(0)
        self.refused(fleet, ("go", 0), "rank is down")
        fleet.rank_up(0)
        self.refused(fleet, ("go", 0), "rank is not at work")
        fleet.start(ALONE, 1)
        self.refused(fleet, ("go", 1), "rank is not at work")
        finish(fleet)
        self.refused(fleet, ("go", 0), "rank has done its acts")

    def test_letters_of_an_earlier_generation(self):
        fleet = Fleet(JOB, 2)
        fleet.start(PAIR, 1)
        advanced(fleet, "send")
        fleet.go(0)
        fleet.start(PAIR, 1)
        self.assertEqual([letter[:3] for letter in fleet.letters()], [(1, 0, 1)])
        self.refused(fleet, ("go", 1), "letter is not there")
        finish(fleet)
        self.assertEqual(fleet.remaining(), 0)
        self.assertEqual([letter[:3] for letter in fleet.letters()], [(1, 0, 1)])

    def test_the_first_letter_that_fits(self):
        fleet = Fleet(JOB, 2)
        fleet.start(PAIR, 1)
        # Both letters of the forward pass are sent; the second one is doubled and stands behind the first one.
        for _ in range(2):
            advanced(fleet, "send", [0])
            fleet.go(0)
        fleet.double(0)
        names = [[name[2] for name, _ in letter[3]] for letter in fleet.letters()]
        self.assertEqual(names, [[0], [1], [0]])
        fleet.go(1)
        self.assertEqual([[name[2] for name, _ in letter[3]] for letter in fleet.letters()], [[1], [0]])
        finish(fleet)
        self.assertEqual((fleet.remaining(), len(fleet.letters())), (0, 1))
        self.assertEqual(fleet.told(), [(0, truth(JOB, ("los", 0, 0, 2)))])

    def test_letters_overtake_one_another(self):
        fleet = Fleet(JOB, 4)
        fleet.start(FOUR, 1)
        for rank in (2, 0):
            advanced(fleet, "send", [rank])
            fleet.go(rank)
        self.assertEqual([letter[1:3] for letter in fleet.letters()], [(2, 3), (0, 1)])
        self.assertEqual(fleet.go(1), ("recv", 1, 0))
        self.assertEqual([letter[1:3] for letter in fleet.letters()], [(2, 3)])


class LetterTest(FleetTest):
    def test_double(self):
        fleet = Fleet(JOB, 4)
        self.refused(fleet, ("double", 0), "no such letter")
        fleet.start(FOUR, 1)
        for rank in (0, 2):
            advanced(fleet, "send", [rank])
            fleet.go(rank)
        first, second = fleet.letters()
        for letter in (-1, 2, 5):
            self.refused(fleet, ("double", letter), "no such letter")
        self.assertIsNone(fleet.double(0))
        self.done(fleet, ("double", 1))
        self.assertEqual(fleet.letters(), [first, second, first, second])
        fleet.start(ALONE, 1)
        fleet.double(3)
        self.assertEqual(fleet.letters(), [first, second, first, second, second])

    def test_lose(self):
        fleet = Fleet(JOB, 4)
        self.refused(fleet, ("lose", 0), "no such letter")
        fleet.start(FOUR, 1)
        for rank in (0, 2):
            advanced(fleet, "send", [rank])
            fleet.go(rank)
        first, second = fleet.letters()
        for letter in (-1, 2):
            self.refused(fleet, ("lose", letter), "no such letter")
        self.refused(fleet, ("lose", 1), "letter is of this generation")
        fleet.start(PAIR, 1)
        advanced(fleet, "send")
        fleet.go(0)
        self.refused(fleet, ("lose", 2), "letter is of this generation")
        third = fleet.letters()[2]
        self.assertIsNone(fleet.lose(0))
        self.assertEqual(fleet.letters(), [second, third])
        self.done(fleet, ("lose", 0))
        self.assertEqual(fleet.letters(), [third])

    def test_a_letter_of_an_earlier_generation_that_was_doubled(self):
        fleet = Fleet(JOB, 2)
        fleet.start(PAIR, 1)
        advanced(fleet, "send")
        fleet.go(0)
        fleet.start(PAIR, 1)
        fleet.double(0)
        fleet.lose(1)
        fleet.lose(0)
        self.assertEqual(fleet.letters(), [])


class RanksTest(FleetTest):
    def test_crash(self):
        fleet = Fleet(JOB, 4)
        for rank in (-1, 4):
            self.refused(fleet, ("crash", rank), "no such rank")
        fleet.start(FOUR, 1)
        advanced(fleet, "send", [0])
        fleet.go(0)
        letters, words = fleet.letters(), fleet.ranks()[2]
        self.assertIsNone(fleet.crash(0))
        self.assertEqual(fleet.ranks()[0], (False, 0, 0, 0, 0))
        self.assertEqual((fleet.ranks()[2], fleet.letters(), fleet.held_by(0)), (words, letters, []))
        self.assertEqual(fleet.remaining(), len(plan_of(JOB, FOUR, 0, 1).acts))
        self.assertIsNone(fleet.next_act(0))
        self.refused(fleet, ("crash", 0), "rank is down")
        # The letter of the rank that is down is taken nevertheless.
        self.assertEqual(fleet.go(1), ("recv", 1, 0))
        self.done(fleet, ("crash", 3))
        self.assertEqual(fleet.ranks()[3], (False, 0, 0, 0, 0))

    def test_up(self):
        fleet = Fleet(JOB, 4)
        for rank in (-1, 4):
            self.refused(fleet, ("up", rank), "no such rank")
        self.refused(fleet, ("up", 2), "rank is up")
        fleet.start(FOUR, 1)
        fleet.go(0)
        fleet.crash(0)
        self.assertIsNone(fleet.rank_up(0))
        self.assertEqual(fleet.ranks()[0], (True, 0, 0, 0, 0))
        self.refused(fleet, ("go", 0), "rank is not at work")
        fleet.crash(0)
        self.done(fleet, ("up", 0))
        self.refused(fleet, ("up", 0), "rank is up")

    def test_tear(self):
        fleet = trained()
        for rank in (-1, 4):
            self.refused(fleet, ("tear", rank, 0), "no such rank")
        self.refused(fleet, ("tear", 0, 0), "rank is not saving")
        fleet.start(SPREAD, 1)
        self.refused(fleet, ("tear", 0, 0), "rank is not saving")
        self.refused(fleet, ("tear", 3, 0), "rank is not saving")
        rank = advanced(fleet, "save")
        whole = file_of([(name, truth(JOB, name)) for name in fleet.next_act(rank)[1]])
        for size in (len(whole), len(whole) + 1, 10 ** 9):
            self.refused(fleet, ("tear", rank, size), "file would be whole")
        files = fleet.files()
        self.assertIsNone(fleet.tear(rank, len(whole) - 1))
        self.assertEqual(fleet.files(), files + [whole[:-1]])
        self.assertEqual(fleet.ranks()[rank], (False, 0, 0, 0, 0))
        self.refused(fleet, ("tear", rank, 0), "rank is not saving")
        fleet.undo()
        for size in (0, 1, 7):
            self.done(fleet, ("tear", rank, size))
            self.assertEqual(fleet.files(), files + [whole[:size]])
            self.assertEqual(fleet.restore(2), None)
            fleet.undo()
        self.refused(fleet, ("commit", 2), "state is not stored")

    def test_a_torn_file_does_not_count(self):
        fleet = trained(2)
        fleet.start(ALONE, 1)
        fleet.tear(advanced(fleet, "save"), 30)
        self.refused(fleet, ("commit", 3), "state is not stored")
        self.assertEqual(len(fleet.files()), 3)
        self.assertEqual(fleet.needed(2), ([1], [1]))
        self.done(fleet, ("sweep", 2))


class StartTest(FleetTest):
    def test_reasons(self):
        fleet = Fleet(JOB, 3)
        self.refused(fleet, ("start", WRONG, 1), "no such layout")
        for steps in (0, -1):
            self.refused(fleet, ("start", ALONE, steps), "no such layout")
            self.refused(fleet, ("start", FOUR, steps), "no such layout")
        self.refused(fleet, ("start", FOUR, 1), "too few ranks")
        fleet.crash(1)
        self.refused(fleet, ("start", WRONG, 1), "no such layout")
        self.refused(fleet, ("start", FOUR, 1), "too few ranks")
        self.refused(fleet, ("start", PAIR, 1), "rank is down")
        self.assertEqual(fleet.present, 0)
        self.done(fleet, ("start", ALONE, 1))
        self.assertEqual(fleet.present, 1)

    def test_other_ranks_stop(self):
        fleet = Fleet(JOB, 6)
        fleet.start(FOUR, 1)
        for rank in (0, 2, 2):
            fleet.go(rank)
        fleet.crash(3)
        self.assertGreater(fleet.ranks()[2][4], 0)
        self.assertEqual(fleet.start(PAIR, 2), 2)
        plan = plan_of(JOB, PAIR, 0, 2)
        rows = [(True, 2, 0, len(plan.acts_of(rank)), 0) for rank in range(2)]
        self.assertEqual(fleet.ranks(), rows + [(True, 0, 0, 0, 0), (False, 0, 0, 0, 0), (True, 0, 0, 0, 0)]
                         + [(True, 0, 0, 0, 0)])
        self.assertEqual(fleet.remaining(), len(plan.acts))
        fleet.rank_up(3)
        self.assertEqual(fleet.start(FOUR, 1), 3)
        self.assertEqual([row[1] for row in fleet.ranks()], [3, 3, 3, 3, 0, 0])
        self.refused(fleet, ("go", 4), "rank is not at work")

    def test_it_starts_from_the_last_commit(self):
        fleet = trained(2)
        fleet.start(SPREAD, 2)
        self.assertEqual(fleet.next_act(0), plan_of(JOB, SPREAD, 2, 2).acts_of(0)[0])
        finish(fleet)
        self.assertEqual([step for step, _ in fleet.told()], [0, 1, 2, 3])
        fleet.commit(4)
        # The same layout from another commit has another plan.
        fleet.start(SPREAD, 2)
        self.assertEqual(fleet.next_act(0), plan_of(JOB, SPREAD, 4, 2).acts_of(0)[0])
        fleet.start(SPREAD, 1)
        self.assertEqual(fleet.remaining(), len(plan_of(JOB, SPREAD, 4, 1).acts))

    def test_a_later_change_of_the_layout(self):
        fleet = Fleet(JOB, 4)
        layout = Layout(1, [4], 1, [False] * 9, False, False)
        fleet.start(layout, 1)
        layout.stages.clear()
        layout.copies = 2
        self.assertEqual(fleet.remaining(), len(plan_of(JOB, PAIR, 0, 1).acts))
        fleet.start(layout, 1)
        self.assertEqual(fleet.remaining(), len(plan_of(JOB, layout, 0, 1).acts))

    def test_many_layouts(self):
        fleet = Fleet(JOB, 6)
        for _ in range(2):
            for k in range(1, 9):
                for redo in (False, True):
                    layout = Layout(2, [k], 1, [False] * 9, redo, redo)
                    fleet.start(layout, 1)
                    self.assertEqual(fleet.remaining(), len(plan_of(JOB, layout, 0, 1).acts))
        self.assertEqual(fleet.present, 32)


class CommitTest(FleetTest):
    def test_commits(self):
        fleet = Fleet(JOB, 4)
        for step in (0, -1):
            self.refused(fleet, ("commit", step), "step is not later")
        self.refused(fleet, ("commit", 1), "state is not stored")
        fleet.start(ALONE, 3)
        advanced(fleet, "save")
        self.refused(fleet, ("commit", 3), "state is not stored")
        finish(fleet)
        for step in (1, 2, 4):
            self.refused(fleet, ("commit", step), "state is not stored")
        self.assertIsNone(fleet.commit(3))
        for step in (0, 1, 2, 3):
            self.refused(fleet, ("commit", step), "step is not later")
        self.assertEqual(fleet.commits(), [3, 0])
        fleet.start(ALONE, 1)
        finish(fleet)
        self.done(fleet, ("commit", 4))
        self.assertEqual(fleet.commits(), [4, 3, 0])

    def test_commits_out_of_order(self):
        fleet = trained(1)
        fleet.start(ALONE, 1)
        finish(fleet)
        fleet.start(PAIR, 2)
        finish(fleet)
        fleet.commit(3)
        # Step 2 is stored, too, but it is too late for it.
        state, wanted = fleet.restore(2), state_at(JOB, 2)
        self.assertEqual((state.cells, state.moments), (wanted.cells, wanted.moments))
        self.refused(fleet, ("commit", 2), "step is not later")
        self.assertEqual(fleet.commits(), [3, 1, 0])

    def test_files_of_several_ranks_and_generations(self):
        fleet = trained()
        fleet.start(SPREAD, 1)
        finish_without_save(fleet, 1)
        self.assertIsNone(fleet.next_act(0))
        self.refused(fleet, ("commit", 2), "state is not stored")
        fleet.start(SPREAD, 1)
        finish_without_save(fleet, 0)
        # Rank 0 has saved in the one generation, rank 1 in the other one.
        self.assertEqual(fleet.next_act(0)[0], "save")
        self.done(fleet, ("commit", 2))
        state, wanted = fleet.restore(2), state_at(JOB, 2)
        self.assertEqual((state.cells, state.moments), (wanted.cells, wanted.moments))

    def test_without_parameters(self):
        job = job_of("input 1\ntarget 1\nloss input * target\nsample 2 | 3\nsample 4 | 5")
        layout = Layout(1, [1], 1, [False] * 3, False, False)
        fleet = Fleet(job, 2)
        self.done(fleet, ("commit", 5))
        self.refused(fleet, ("commit", 5), "step is not later")
        fleet.start(layout, 1)
        finish(fleet)
        self.assertEqual((fleet.told(), fleet.files(), fleet.remaining()), ([(5, truth(job, ("los", 5, 0, 1)))], [], 0))
        fleet.commit(10 ** 20)
        self.assertEqual(fleet.commits(), [10 ** 20, 5, 0])
        fleet.start(layout, 1)
        finish(fleet)
        self.assertEqual(fleet.told()[-1], (10 ** 20, truth(job, ("los", 10 ** 20, 0, 1))))


class SweepTest(FleetTest):
    def test_reasons(self):
        fleet = Fleet(JOB, 4)
        self.refused(fleet, ("sweep", 0), "no such file")
        fleet = trained(3)
        # The present generation started from commit 2; the files have the steps 1, 2 and 3.
        for place in (-1, 3):
            self.refused(fleet, ("sweep", place), "no such file")
        self.refused(fleet, ("sweep", 1), "file is needed")
        self.refused(fleet, ("sweep", 2), "file is needed")
        files = fleet.files()
        self.assertIsNone(fleet.sweep(0))
        self.assertEqual(fleet.files(), files[1:])
        self.refused(fleet, ("sweep", 0), "file is needed")
        fleet.start(ALONE, 1)
        self.done(fleet, ("sweep", 0))
        self.assertEqual(fleet.files(), files[2:])
        self.refused(fleet, ("sweep", 0), "file is needed")

    def test_files_of_later_steps(self):
        fleet = trained(1)
        fleet.start(ALONE, 1)
        finish(fleet)
        # The file of step 2 is not committed, but of a later step than the commit.
        self.refused(fleet, ("sweep", 1), "file is needed")
        fleet.commit(2)
        self.refused(fleet, ("sweep", 0), "file is needed")

    def test_files_that_cannot_be_read(self):
        fleet = trained(1)
        fleet.start(ALONE, 1)
        rank = advanced(fleet, "save")
        size = len(file_of([(name, truth(JOB, name)) for name in fleet.next_act(rank)[1]]))
        for cut in (0, 3, size - 1):
            fleet.tear(rank, cut)
            self.done(fleet, ("sweep", 1))
            self.assertEqual(len(fleet.files()), 1)
            fleet.undo()
            fleet.undo()


class OwnerTest(FleetTest):
    def test_what_is_handed_out_belongs_to_the_caller(self):
        fleet = trained(1)
        fleet.start(PAIR, 1)
        advanced(fleet, "send")
        fleet.go(0)
        before = all_of(fleet)
        for facts in (fleet.held_by(0), fleet.letters()[0][3], fleet.files()[0], fleet.commits(), fleet.told(),
                      fleet.ranks(), fleet.ready(), fleet.letters(), fleet.files()):
            self.assertTrue(facts)
            facts.clear()
        for facts in fleet.needed(1):
            facts.append(99)
        for step in (0, 1):
            fleet.restore(step).cells[0][0][0] = 99
            fleet.restore(step).moments.clear()
        self.assertEqual(all_of(fleet), before)
        self.assertEqual(fleet.needed(1), ([0], [0]))
        state, wanted = fleet.restore(1), state_at(JOB, 1)
        self.assertEqual((state.cells, state.moments), (wanted.cells, wanted.moments))
        events = fleet.drive([ALONE], 1, 5, count=3)
        kept = all_of(fleet)
        events.clear()
        self.assertEqual(all_of(fleet), kept)

    def test_files_can_be_read(self):
        fleet = trained(2, SPREAD)
        self.assertEqual(len(fleet.files()), 4)
        for data in fleet.files():
            for name, word in facts_of(data):
                self.assertEqual(word, truth(JOB, name))


class UndoTest(FleetTest):
    def test_each_event(self):
        fleet = trained(1)
        states = []
        events = [("start", FOUR, 1), ("go", 0), ("go", 0), ("crash", 1), ("up", 1), ("start", ALONE, 1)]
        for event in events:
            states.append(all_of(fleet))
            fleet.do(event)
        fleet.drive([FOUR], 1, 3, count=200)
        self.assertTrue(fleet.undo())
        for state in reversed(states):
            self.assertTrue(fleet.undo())
            self.assertEqual(all_of(fleet), state)

    def test_at_most_16_states(self):
        fleet = Fleet(JOB, 2)
        states = []
        for k in range(20):
            states.append(all_of(fleet))
            fleet.start(ALONE, 1)
            if k == 9:
                fleet.crash(1)
                fleet.undo()
        for state in reversed(states[4:]):
            self.assertTrue(fleet.undo())
            self.assertEqual(all_of(fleet), state)
        self.assertFalse(fleet.undo())
        self.assertEqual(fleet.present, 4)

    def test_fewer_than_16_states(self):
        fleet = Fleet(JOB, 2)
        for k in range(16):
            fleet.do(("crash", 0) if k % 2 == 0 else ("up", 0))
        self.assertEqual([fleet.undo() for _ in range(17)], [True] * 16 + [False])
        self.assertEqual(all_of(fleet), all_of(Fleet(JOB, 2)))

    def test_after_an_error_and_a_question(self):
        fleet = Fleet(JOB, 2)
        fleet.crash(1)
        self.refused(fleet, ("crash", 1), "rank is down")
        self.assertIsNone(fleet.can(("up", 1)))
        self.assertTrue(fleet.undo())
        self.assertEqual(all_of(fleet), all_of(Fleet(JOB, 2)))
        self.assertFalse(fleet.undo())

    def test_a_run_is_one_event(self):
        fleet = Fleet(JOB, 4)
        fleet.crash(3)
        before = all_of(fleet)
        self.assertEqual(len(fleet.drive([FOUR, ALONE], 1, 7, count=60)), 60)
        after = all_of(fleet)
        # A run in which nothing happens adds a state, too.
        self.assertEqual(fleet.drive([FOUR], 1, 7, count=0), [])
        self.assertTrue(fleet.undo())
        self.assertEqual(all_of(fleet), after)
        self.assertTrue(fleet.undo())
        self.assertEqual(all_of(fleet), before)
        self.assertTrue(fleet.undo())
        self.assertFalse(fleet.undo())

    def test_events_after_undo(self):
        fleet = trained(1)
        fleet.start(ALONE, 1)
        fleet.undo()
        self.assertEqual(fleet.start(PAIR, 1), 2)
        fleet.go(0)
        fleet.undo()
        self.assertEqual(fleet.held_by(0), [])
        finish(fleet)
        fleet.commit(2)
        fleet.undo()
        self.assertEqual(fleet.commits(), [1, 0])
        fleet.commit(2)
        self.assertEqual(fleet.commits(), [2, 1, 0])

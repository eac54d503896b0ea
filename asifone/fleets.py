"""Fleets: ranks that train a job together, whatever happens to them."""

from asifone.effects import take_effect
from asifone.errors import EventError
from asifone.reasons import reason_against
from asifone.runs import next_event
from asifone.situations import Situation, is_at_work, next_act_of, tables_of
from asifone.store import needed_in, state_in

# How many states are kept for undo.
MOST_KEPT = 16


class Fleet:
    """A fleet of ranks with a job, letters and files."""

    def __init__(self, job, ranks):
        self._now = Situation(job, ranks)
        self._kept = []

    @property
    def present(self):
        """The number of the present generation."""
        return self._now.generation

    def go(self, rank):
        """A rank does its next act; the tuple (kind, words, other) of this act."""
        return self._happen(("go", rank))

    def start(self, layout, steps):
        """The next generation starts from the last commit; its number."""
        return self._happen(("start", layout, steps))

    def double(self, letter):
        """A letter like the one with this number is added."""
        self._happen(("double", letter))

    def lose(self, letter):
        """The letter with this number, one of an earlier generation, is removed."""
        self._happen(("lose", letter))

    def crash(self, rank):
        """A rank goes down."""
        self._happen(("crash", rank))

    def tear(self, rank, size):
        """A rank goes down while it saves a file, of which the first bytes remain."""
        self._happen(("tear", rank, size))

    def rank_up(self, rank):
        """A rank comes up."""
        self._happen(("up", rank))

    def commit(self, step):
        """A step is committed."""
        self._happen(("commit", step))

    def sweep(self, place):
        """The file with this number is removed."""
        self._happen(("sweep", place))

    def do(self, event):
        """Does an event that is told as a tuple."""
        self._happen(event)

    def drive(self, layouts, steps, seed, *, count):
        """Carries out a run of at most count events; the list of these events."""
        before = self._now.copied()
        events = []
        while len(events) < count:
            event = next_event(self._now, layouts, steps, seed, len(events))
            if event is None:
                break
            take_effect(self._now, event)
            events.append(event)
        self._keep(before)
        return events

    def undo(self):
        """Returns to the state before the last event; False if no state is kept."""
        if not self._kept:
            return False
        self._now = self._kept.pop()
        return True

    def can(self, event):
        """None if the event can happen, otherwise the reason."""
        return reason_against(self._now, event)

    def next_act(self, rank):
        """The next act of a rank, or None."""
        return next_act_of(self._now, rank)

    def ranks(self):
        """The list of the tuples (up, generation, done, left, words) of all ranks."""
        result = []
        for rank, worker in enumerate(self._now.workers):
            generation = done = left = 0
            if is_at_work(self._now, rank):
                generation, done = worker.generation, worker.done
                left = len(self._now.plan[rank]) - done
            result.append((worker.up, generation, done, left, len(worker.held)))
        return result

    def ready(self):
        """The list of the ranks that can go, ascending."""
        return [rank for rank in range(len(self._now.workers)) if self.can(("go", rank)) is None]

    def remaining(self):
        """The number of acts of the present generation that are not done."""
        done = [row[2] for row in self.ranks()]
        return sum([len(acts) for acts in self._now.plan]) - sum(done)

    def held_by(self, rank):
        """The list of the facts that a rank holds."""
        return list(self._now.workers[rank].held.items())

    def letters(self):
        """The list of the letters as tuples (generation, source, to, facts)."""
        return [(generation, source, to, list(facts)) for generation, source, to, facts in self._now.mail]

    def files(self):
        """The list of the files."""
        return [list(data) for data, _ in self._now.shelf]

    def commits(self):
        """The list of the commits, the last one first."""
        return list(self._now.committed)

    def told(self):
        """The list of the pairs (step, loss) that were reported, in order."""
        return list(self._now.losses)

    def restore(self, step):
        """The State of a step, or None if it cannot be restored."""
        return state_in(self._now.job, tables_of(self._now), step)

    def needed(self, step):
        """The tuple (needed, critical) of the files of a step, or None if it cannot be restored."""
        return needed_in(self._now.job, tables_of(self._now), step)

    def _happen(self, event):
        """Does an event if it can happen."""
        reason = reason_against(self._now, event)
        if reason is not None:
            raise EventError(reason)
        before = self._now.copied()
        outcome = take_effect(self._now, event)
        self._keep(before)
        return outcome

    def _keep(self, situation):
        self._kept.append(situation)
        if len(self._kept) > MOST_KEPT:
            del self._kept[0]

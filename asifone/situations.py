"""The situation of a fleet between two events."""

from asifone.files import file_of
from asifone.planner import Planner
from asifone.store import words_in


class Worker:
    """A rank of a fleet: whether it is up, its generation or 0, how many acts it has done in it, and what it holds.

    held is a dict from names to words, in order: no plan of a layout gives a rank a name that it still holds.
    """

    def __init__(self):
        self.up = True
        self.begin(0)

    def begin(self, generation):
        """Works in a generation from now on, or in none, and holds nothing."""
        self.generation = generation
        self.done = 0
        self.held = {}

    def copied(self):
        """An object of its own of the same content."""
        result = Worker()
        result.up = self.up
        result.generation = self.generation
        result.done = self.done
        result.held = {name: word for name, word in self.held.items()}
        return result


class Situation:
    """All that a fleet has.

    workers has the ranks of the fleet, plan the lists of the acts of the ranks of the present generation, and base the
    commit from which it started. mail has the letters, tuples (generation, source, to, facts), and shelf the files,
    pairs of their bytes and of the dict from the names to the words that can be read. committed has the commits, the
    last one first, and losses the pairs (step, loss) that were reported.
    """

    def __init__(self, job, ranks):
        self.job = job
        self.planner = Planner(job)
        self.workers = [Worker() for _ in range(ranks)]
        self.generation = 0
        self.plan = []
        self.base = 0
        self.mail = []
        self.shelf = []
        self.committed = [0]
        self.losses = []

    def copied(self):
        """An object of its own of the same content."""
        result = Situation(self.job, 0)
        result.planner = self.planner
        result.workers = [worker.copied() for worker in self.workers]
        result.generation = self.generation
        result.plan = self.plan
        result.base = self.base
        result.mail = list(self.mail)
        result.shelf = list(self.shelf)
        result.committed = list(self.committed)
        result.losses = list(self.losses)
        return result

    def shelve(self, data):
        """Adds a file behind all others."""
        self.shelf.append((tuple(data), words_in(data)))


def tables_of(now):
    """What can be read of each file, a list of dicts from names to words."""
    return [words for _, words in now.shelf]


def is_at_work(now, rank):
    """True if the rank is at work."""
    if not 0 <= rank < len(now.plan):
        return False
    return now.workers[rank].up and now.workers[rank].generation == now.generation


def next_act_of(now, rank):
    """The next act of a rank, or None."""
    if not is_at_work(now, rank):
        return None
    acts, done = now.plan[rank], now.workers[rank].done
    return acts[done] if done < len(acts) else None


def letter_for(now, rank, act):
    """The index of the first letter that fits an act of the rank that takes one, or None."""
    _, source, names = act
    for at, (generation, sender, to, facts) in enumerate(now.mail):
        if (generation, sender, to) == (now.generation, source, rank) and [name for name, _ in facts] == list(names):
            return at
    return None


def file_to_save(now, rank, act):
    """The file of an act of the rank that saves names."""
    return file_of(facts_held(now, rank, act[1]))


def facts_held(now, rank, names):
    """The facts of these names that a rank holds."""
    held = now.workers[rank].held
    return [(name, held[name]) for name in names]

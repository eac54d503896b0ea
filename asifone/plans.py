"""Plans: lists of acts of several ranks in one order."""

from asifone.acts import names_of, narrowed
from asifone.drops import tidy
from asifone.layouts import ranks_of
from asifone.letters import wired
from asifone.tasks import tasks


class Plan:
    """A plan; it has a copy of the list of pairs (rank, act)."""

    def __init__(self, acts, ranks):
        self.acts = list(acts)
        self.ranks = ranks

    def __iter__(self):
        return iter(self.acts)

    def acts_of(self, rank):
        """The list of the acts of a rank, in order."""
        return [act for doer, act in self.acts if doer == rank]


def plan_of(job, layout, start, steps):
    """The plan of a layout for some steps from the step start on."""
    return Plan(tidy(job, wired(job, tasks(job, layout, start, steps))), ranks_of(layout))


def trace(plan, name):
    """The trace of a name in a plan, a list of tuples (place, rank, act)."""
    return [(at, rank, narrowed(act, name)) for at, (rank, act) in enumerate(plan) if name in names_of(act)]

"""Plans that are kept, as a generation often starts again from the same commit."""

from asifone.plans import plan_of

# How many plans are kept.
MOST_PLANS = 12


class Planner:
    """The plans of a job, as lists of the acts of each rank that nobody changes."""

    def __init__(self, job):
        self.job = job
        self._kept = {}

    def acts_by_rank(self, layout, start, steps):
        """The list of the lists of the acts of all ranks of a plan."""
        cut = tuple(layout.cut)
        key = (layout.copies, tuple(layout.stages), layout.ways, cut, layout.spread, layout.redo, start, steps)
        if key not in self._kept:
            if len(self._kept) == MOST_PLANS:
                self._kept = {}
            plan = plan_of(self.job, layout, start, steps)
            self._kept[key] = [plan.acts_of(rank) for rank in range(plan.ranks)]
        return self._kept[key]

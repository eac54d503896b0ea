"""Layouts: how the work of a step is distributed over ranks."""

from asifone.limits import MOST_COPIES, MOST_RANKS, MOST_WAYS


class Layout:
    """A layout; it has copies of the lists stages and cut."""

    def __init__(self, copies, stages, ways, cut, spread, redo):
        self.copies = copies
        self.stages = list(stages)
        self.ways = ways
        self.cut = list(cut)
        self.spread = spread
        self.redo = redo


def fits(job, layout):
    """True if the layout fits the job."""
    many = len(job.net.nodes)
    if not 1 <= layout.copies <= min(job.batch, MOST_COPIES) or not 1 <= layout.ways <= MOST_WAYS:
        return False
    if len(layout.cut) != many or ranks_of(layout) > MOST_RANKS:
        return False
    return _ascend([0] + layout.stages + [many])


def ranks_of(layout):
    """The number of ranks of a layout."""
    return layout.copies * _stages(layout) * layout.ways


def rank_at(layout, copy, stage, way):
    """The number of a rank."""
    return (copy * _stages(layout) + stage) * layout.ways + way


def part_begin(n, m, k):
    """Where the part k starts if n things are cut into m parts."""
    return n * k // m


def part_of(n, m, i):
    """The part of the thing i if n things are cut into m parts."""
    # The part k is the least one whose end n * (k + 1) / m, rounded down, is at least i + 1.
    return (m * (i + 1) - 1) // n


def _stages(layout):
    return len(layout.stages) + 1


def _ascend(numbers):
    return all([one < other for one, other in zip(numbers, numbers[1:])])

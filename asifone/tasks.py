"""The tasks of a step and of a layout: who makes, loads, saves and tells what, still without letters."""

from asifone.goals import acts_for, needed
from asifone.naming import state_names
from asifone.places import block_of, cells_of, loss_rank, updaters


def step_tasks(job, layout, step):
    """The tasks of a step, pairs (rank, act)."""
    result = []
    for lo, t in _samples(job, layout):
        result.extend(acts_for(job, layout, _loss(step, lo, t), _losses_before(step, lo, t)))
    whole = [("los", step, *block) for block in _blocks(job, layout)]
    result.extend(acts_for(job, layout, [("los", step, 0, job.batch)], whole))
    result.append((loss_rank(job, layout, 0), ("tell", step)))
    for lo, t in _samples(job, layout):
        known = _gradients(job, step, lo, t) if lo < t else []
        if not layout.redo:
            known = known + needed(job, layout, _loss(step, lo, t), _losses_before(step, lo, t))
        result.extend(acts_for(job, layout, _gradients(job, step, lo, t + 1), known))
    whole = [name for lo, hi in _blocks(job, layout) for name in _gradients(job, step, lo, hi)]
    result.extend(acts_for(job, layout, _gradients(job, step, 0, job.batch), whole))
    return result + _state_tasks(job, layout, step + 1)


def tasks(job, layout, start, steps):
    """The tasks of a layout for some steps from the step start on, pairs (rank, act)."""
    result = _state_tasks(job, layout, 0) if start == 0 else _loads(job, layout, start)
    for step in range(start, start + steps):
        result.extend(step_tasks(job, layout, step))
    return result + _saves(job, layout, start + steps)


def _blocks(job, layout):
    return [block_of(job, layout, copy) for copy in range(layout.copies)]


def _samples(job, layout):
    """The pairs of the start of a block and one of its samples, copy by copy."""
    return [(lo, t) for lo, hi in _blocks(job, layout) for t in range(lo, hi)]


def _loss(step, lo, t):
    """The goal with which the values for sample t are computed."""
    return [("los", step, lo, t + 1)]


def _losses_before(step, lo, t):
    return [("los", step, lo, t)] if lo < t else []


def _gradients(job, step, lo, hi):
    return [("grd", step, *cell, lo, hi) for cell in cells_of(job.net)]


def _state_tasks(job, layout, step):
    """Making the moments and then the parameters before a step."""
    cells = _cells_by_rank(job, layout)
    return [
        (rank, ("make", tuple([((kind, step, *cell), ("direct",)) for cell in cells[rank]])))
        for kind in ("mom", "par") for rank in sorted(cells)
    ]


def _loads(job, layout, step):
    cells = _cells_by_rank(job, layout)
    return [(rank, ("load", tuple(state_names(cells[rank], step)))) for rank in sorted(cells)]


def _saves(job, layout, step):
    cells = {}
    for cell in cells_of(job.net):
        cells.setdefault(min(updaters(job, layout, *cell)), []).append(cell)
    return [(rank, ("save", tuple(state_names(cells[rank], step)))) for rank in sorted(cells)]


def _cells_by_rank(job, layout):
    """The dict from the ranks that update cells to these cells, in order."""
    cells = {}
    for cell in cells_of(job.net):
        for rank in updaters(job, layout, *cell):
            cells.setdefault(rank, []).append(cell)
    return cells

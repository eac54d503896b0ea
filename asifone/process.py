"""Training in one process."""

from asifone.adds import backward
from asifone.feed import sample_of, spot_of
from asifone.jobs import rate_at
from asifone.nets import beginnings
from asifone.rings import WordRing
from asifone.scenes import Scene
from asifone.values import forward
from asifone.words import divided, total, wrap


class State:
    """The parameters and the moments before a step, both cells."""

    def __init__(self, cells, moments):
        self.cells = cells
        self.moments = moments


def scene_of(job, ring, cells, step, t):
    """The scene of sample t of the batch of a step."""
    return Scene(job.net, ring, job.seed, cells, sample_of(job, step, t), spot_of(job, step, t))


def values_of(job, cells, step, t):
    """The values of all nodes for sample t of the batch of a step, with these cells."""
    return forward(scene_of(job, WordRing(), cells, step, t))


def adjoints_of(job, cells, step, t):
    """The adjoints of all nodes for sample t of the batch of a step, with these cells."""
    return _both_of(job, cells, step, t)[0]


def gradients_of(job, cells, step, t):
    """The gradients of all cells for sample t of the batch of a step, with these cells."""
    return _both_of(job, cells, step, t)[1]


def batch_gradients(job, cells, step):
    """The sums of the gradients for the samples of the batch."""
    result = _zeros(cells)
    for t in range(job.batch):
        result = cell_by_cell(_sum, result, gradients_of(job, cells, step, t))
    return result


def first_state(job):
    """The state of step 0."""
    cells = beginnings(job.net, job.seed)
    return State(cells, _zeros(cells))


def next_state(job, step, state):
    """The state after a step, from the state before it."""
    gradients = batch_gradients(job, state.cells, step)
    moments = cell_by_cell(lambda moment, gradient: new_moment(job, moment, gradient), state.moments, gradients)
    cells = cell_by_cell(lambda word, moment: new_value(job, step, word, moment), state.cells, moments)
    return State(cells, moments)


def state_at(job, step):
    """The state of a step."""
    state = first_state(job)
    # Without parameters nothing changes, however great the step is.
    if not job.net.parameters:
        return state
    for earlier in range(step):
        state = next_state(job, earlier, state)
    return state


def new_moment(job, moment, gradient):
    """The moment after a step, from the moment before it and the gradient."""
    return wrap(divided(wrap(job.factor * moment), job.point) + gradient)


def new_value(job, step, word, moment):
    """The value of a cell after a step, from its value before it and its new moment."""
    return wrap(word - divided(wrap(rate_at(job, step) * moment), job.point))


def loss_with(job, cells, step):
    """The sum of the losses of the samples of the batch, with these cells."""
    return total([values_of(job, cells, step, t)[-1][0] for t in range(job.batch)])


def loss_at(job, step):
    """The loss of a step."""
    return loss_with(job, state_at(job, step).cells, step)


def cell_by_cell(rule, one, other):
    """The cells that the rule makes of two cells each."""
    return [
        [[rule(a, b) for a, b in zip(row, line)] for row, line in zip(matrix, rows)]
        for matrix, rows in zip(one, other)
    ]


def _both_of(job, cells, step, t):
    scene = scene_of(job, WordRing(), cells, step, t)
    forward(scene)
    return backward(scene)


def _zeros(cells):
    return [[[0 for _ in row] for row in matrix] for matrix in cells]


def _sum(a, b):
    return wrap(a + b)

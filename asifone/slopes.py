"""Slopes, curvatures and roundings along a direction."""

from asifone.adds import backward
from asifone.process import cell_by_cell, scene_of
from asifone.rings import DualRing
from asifone.values import forward
from asifone.words import divided, total, wrap


def slope(job, cells, direction, step, t):
    """The slope of the loss of sample t of the batch of a step."""
    return forward(_moving(job, cells, direction, step, t))[-1][0][1]


def curvature(job, cells, direction, step, t):
    """The curvatures of all cells for sample t of the batch of a step."""
    scene = _moving(job, cells, direction, step, t)
    forward(scene)
    _, gradients = backward(scene)
    return [[[pair[1] for pair in row] for row in matrix] for matrix in gradients]


def roundings(job, cells, direction, step, t):
    """The sum of the roundings of all elements of all shift nodes."""
    scene = _moving(job, cells, direction, step, t)
    values = forward(scene)
    adjoints, _ = backward(scene)
    return total([
        _rounding(d[0], s[1], node[1])
        for v, node in enumerate(job.net.nodes) if node[0] == "shift"
        for d, s in zip(adjoints[v], values[node[2]])
    ])


def moved(cells, direction, by):
    """The cells, moved by a word along the direction."""
    return cell_by_cell(lambda word, more: wrap(word + by * more), cells, direction)


def product(gradients, direction):
    """The product of gradients and a direction."""
    products = cell_by_cell(lambda one, other: one * other, gradients, direction)
    return total([number for matrix in products for row in matrix for number in row])


def _moving(job, cells, direction, step, t):
    pairs = cell_by_cell(lambda word, more: (word, more), cells, direction)
    return scene_of(job, DualRing(), pairs, step, t)


def _rounding(d, s, k):
    return wrap(d * divided(s, k) - divided(d, k) * s)

"""Scenes: what a network is computed on."""

from asifone.nets import operands
from asifone.shapes import is_multiple
from asifone.words import mixed, unsigned


class Scene:
    """A network with cells of a ring, a sample of words and its spot; computed has the values so far."""

    def __init__(self, net, ring, seed, cells, sample, spot):
        self.net = net
        self.ring = ring
        self.seed = seed
        self.cells = cells
        self.sample = sample
        self.spot = spot
        self.computed = []


def row_of(net, sample, p, at):
    """The row of the parameter p that the element at of the input names."""
    return unsigned(sample[0][at]) % net.parameters[p].rows


def is_dropped(seed, spot, v, divisor, j):
    """True if the element j of the drop node v is dropped."""
    return is_multiple(unsigned(mixed(seed, [1, spot, v, j])), divisor)


def operand_values(scene, node):
    """The values of the operands of a node, in order."""
    return [scene.computed[a] for a in operands(node)]

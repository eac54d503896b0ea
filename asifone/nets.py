"""Networks: parameters, nodes, and how parameters begin."""

from asifone.kinds import OPERAND_PLACES, WITH_PARAMETER
from asifone.limits import MOST_LENGTH, MOST_NODES, MOST_PARAMETERS, MOST_PLACES, MOST_SHIFT, MOST_SIDE
from asifone.shapes import length_of
from asifone.words import mixed, shifted

OWN_ROWS = ("input", "target", "sum", "join", "take")


class Parameter:
    """A matrix of words that is trained; fill is ("same", word) or ("mixed", k)."""

    def __init__(self, rows, cols, fill):
        self.rows = rows
        self.cols = cols
        self.fill = fill


class Net:
    """A network; the field lengths ends before the first node that has no length."""

    def __init__(self, inputs, targets, parameters, nodes):
        self.inputs = inputs
        self.targets = targets
        self.parameters = list(parameters)
        self.nodes = list(nodes)
        self.lengths = _lengths(self)


def operands(node):
    """The list of the numbers of the operands of a node."""
    return [node[at] for at in OPERAND_PLACES[node[0]]]


def parameter_of(node):
    """The number of the parameter of a node, or None."""
    return node[1] if node[0] in WITH_PARAMETER else None


def is_net(net):
    """True if the network has all that a network must have."""
    if not 1 <= net.inputs <= MOST_PLACES or not 1 <= net.targets <= MOST_PLACES:
        return False
    return _has_good_parameters(net) and _has_good_nodes(net)


def beginning(net, seed, p, i, j):
    """The word with which the cell (i, j) of the parameter p begins."""
    kind, number = net.parameters[p].fill
    if kind == "same":
        return number
    return shifted(mixed(seed, [3, p, i, j]), number)


def beginnings(net, seed):
    """The cells as they begin."""
    return [
        [[beginning(net, seed, p, i, j) for j in range(parameter.cols)] for i in range(parameter.rows)]
        for p, parameter in enumerate(net.parameters)
    ]


def row_length(net, v):
    """The row length of the node v."""
    # All kinds that are left have the row length of their first operand.
    while True:
        node = net.nodes[v]
        kind = node[0]
        if kind in OWN_ROWS:
            return net.lengths[v]
        if kind in WITH_PARAMETER:
            return net.parameters[node[1]].cols
        if kind in ("mat", "matT"):
            return net.lengths[node[3]] // node[1]
        if kind == "lower":
            return node[1]
        v = operands(node)[0]


def sides(net, v):
    """For a lin, mat or matT node: its rows, the terms of each of its elements, and the length of its rows."""
    node = net.nodes[v]
    a = operands(node)[0]
    terms = net.parameters[node[1]].rows if node[0] == "lin" else node[1]
    return net.lengths[a] // terms, terms, row_length(net, v)


def _lengths(net):
    known = []
    for node in net.nodes:
        length = length_of(net, known, node)
        if length is None:
            return known
        known.append(length)
    return known


def _has_good_parameters(net):
    if len(net.parameters) > MOST_PARAMETERS:
        return False
    return all([_is_good(parameter) for parameter in net.parameters])


def _is_good(parameter):
    kind, number = parameter.fill
    if kind == "mixed" and not 0 <= number <= MOST_SHIFT:
        return False
    return 1 <= parameter.rows <= MOST_SIDE and 1 <= parameter.cols <= MOST_SIDE


def _has_good_nodes(net):
    # The nodes may have been changed since the field lengths was set.
    known = _lengths(net)
    if not 1 <= len(net.nodes) <= MOST_NODES or len(known) < len(net.nodes):
        return False
    return known[-1] == 1 and all([1 <= length <= MOST_LENGTH for length in known])

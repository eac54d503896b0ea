"""Where samples, elements of nodes and cells lie in a layout."""

from asifone.layouts import part_begin, part_of, rank_at
from asifone.nets import parameter_of, row_length


def copy_of(job, layout, t):
    """The copy of sample t of a batch."""
    return part_of(job.batch, layout.copies, t)


def block_of(job, layout, copy):
    """The block of samples of a copy, a tuple (lo, hi)."""
    return part_begin(job.batch, layout.copies, copy), part_begin(job.batch, layout.copies, copy + 1)


def stage_of(layout, v):
    """The stage of the node v."""
    return len([first for first in layout.stages if first <= v])


def loss_rank(job, layout, copy):
    """The loss rank of a copy."""
    return rank_at(layout, copy, stage_of(layout, len(job.net.nodes) - 1), 0)


def ways_of_element(job, layout, v, j):
    """The ways of the element j of the node v."""
    if not layout.cut[v]:
        return list(range(layout.ways))
    length = row_length(job.net, v)
    return [part_of(length, layout.ways, j % length)]


def ranks_of_element(job, layout, t, v, j):
    """The ranks of the element j of the node v for sample t of a batch."""
    return ranks_at(layout, copy_of(job, layout, t), stage_of(layout, v), ways_of_element(job, layout, v, j))


def ranks_at(layout, copy, stage, ways):
    """The ranks of a copy and a stage with these ways."""
    return [rank_at(layout, copy, stage, way) for way in ways]


def user_of(net, p):
    """The first node with the parameter p, or 0."""
    for v, node in enumerate(net.nodes):
        if parameter_of(node) == p:
            return v
    return 0


def ways_of_cell(job, layout, p, i, j):
    """The ways of the cell (i, j) of the parameter p."""
    user = user_of(job.net, p)
    node = job.net.nodes[user]
    if node[0] == "lin" and layout.cut[node[2]]:
        return [part_of(job.net.parameters[p].rows, layout.ways, i)]
    return ways_of_element(job, layout, user, j)


def homes(job, layout, copy, p, i, j):
    """The homes of a cell in a copy."""
    return ranks_at(layout, copy, stage_of(layout, user_of(job.net, p)), ways_of_cell(job, layout, p, i, j))


def updaters(job, layout, p, i, j):
    """The ranks that update a cell, copy by copy."""
    copies = list(range(layout.copies))
    if layout.spread:
        parameter = job.net.parameters[p]
        copies = [part_of(parameter.rows * parameter.cols, layout.copies, i * parameter.cols + j)]
    return [rank for copy in copies for rank in homes(job, layout, copy, p, i, j)]


def cells_of(net):
    """The list of all cells as tuples (p, i, j), in order."""
    return [
        (p, i, j)
        for p, parameter in enumerate(net.parameters)
        for i in range(parameter.rows)
        for j in range(parameter.cols)
    ]

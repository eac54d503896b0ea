"""The direct premises of val, inc and grd names, by kinds of nodes."""

from asifone.feed import sample_of
from asifone.naming import adj, par, val
from asifone.nets import operands, parameter_of, row_length, sides
from asifone.scenes import row_of
from asifone.shapes import is_lower
from asifone.terms import bac_count, pre_count


def val_sources(job, name):
    """The direct premises of a val name."""
    _, n, t, v, j = name
    node = job.net.nodes[v]
    rule = VAL_SOURCES[node[0]]
    return rule(job, n, t, v, node, j)


def inc_sources(job, n, t, u, v, j):
    """Of what the adjoint of the element j of v gets from the node u, of which v is an operand."""
    node = job.net.nodes[u]
    rule = INC_SOURCES[node[0]]
    return rule(job.net, n, t, u, node, v, j)


def grd_sources(job, n, t, u, i, j):
    """Of what the cell (i, j) of the parameter of the node u gets from it."""
    node = job.net.nodes[u]
    rule = GRD_SOURCES[node[0]]
    return rule(job, n, t, u, node, i, j)


def users_of(net, p):
    """The numbers of the nodes whose parameter is p, in order."""
    return [u for u, node in enumerate(net.nodes) if parameter_of(node) == p]


# Each of the following functions tells the premises of the element j of the node v.


def _val_of_sample(job, n, t, v, node, j):
    return []


def _val_of_terms(job, n, t, v, node, j):
    return [("pre", n, t, v, j, 0, pre_count(job.net, v))]


def _val_of_bias(job, n, t, v, node, j):
    _, p, a = node
    return [val(n, t, a, j), par(n, p, 0, j % row_length(job.net, v))]


def _val_of_embed(job, n, t, v, node, j):
    _, p, lo, _ = node
    x, y = divmod(j, row_length(job.net, v))
    return [par(n, p, row_of(job.net, sample_of(job, n, t), p, lo + x), y)]


def _val_of_lower(job, n, t, v, node, j):
    _, c, a = node
    return [val(n, t, a, j)] if is_lower(j, c) else []


def _val_of_elements(job, n, t, v, node, j):
    return [val(n, t, a, j) for a in operands(node)]


def _val_of_join(job, n, t, v, node, j):
    _, a, b = node
    border = job.net.lengths[a]
    return [val(n, t, a, j) if j < border else val(n, t, b, j - border)]


def _val_of_take(job, n, t, v, node, j):
    _, lo, _, a = node
    return [val(n, t, a, lo + j)]


# Each of the following functions tells the premises for the element j of the operand v of the node u.


def _inc_of_terms(net, n, t, u, node, v, j):
    return [
        ("bac", n, t, u, s, j, 0, bac_count(net, u, s))
        for s, a in enumerate(operands(node)) if a == v
    ]


def _inc_of_element(net, n, t, u, node, v, j):
    return [adj(n, t, u, j)]


def _inc_of_lower(net, n, t, u, node, v, j):
    return [adj(n, t, u, j)] if is_lower(j, node[1]) else []


def _inc_and_operands(net, n, t, u, node, v, j):
    return [adj(n, t, u, j)] + [val(n, t, a, j) for a in operands(node)]


def _inc_of_sum(net, n, t, u, node, v, j):
    return [adj(n, t, u, 0)]


def _inc_of_join(net, n, t, u, node, v, j):
    _, a, b = node
    starts = ((a, 0), (b, net.lengths[a]))
    return [adj(n, t, u, start + j) for operand, start in starts if operand == v]


def _inc_of_take(net, n, t, u, node, v, j):
    _, lo, many, _ = node
    return [adj(n, t, u, j - lo)] if lo <= j < lo + many else []


# Each of the following functions tells the premises for the cell (i, j) of the parameter of the node u.


def _grd_of_lin(job, n, t, u, node, i, j):
    a = node[2]
    rows, r, c = sides(job.net, u)
    return [name for x in range(rows) for name in (val(n, t, a, x * r + i), adj(n, t, u, x * c + j))]


def _grd_of_bias(job, n, t, u, node, i, j):
    return [adj(n, t, u, at) for at in range(j, job.net.lengths[u], row_length(job.net, u))]


def _grd_of_embed(job, n, t, u, node, i, j):
    _, p, lo, many = node
    c = row_length(job.net, u)
    sample = sample_of(job, n, t)
    return [adj(n, t, u, x * c + j) for x in range(many) if row_of(job.net, sample, p, lo + x) == i]


VAL_SOURCES = {
    "input": _val_of_sample,
    "target": _val_of_sample,
    "lin": _val_of_terms,
    "bias": _val_of_bias,
    "embed": _val_of_embed,
    "mat": _val_of_terms,
    "matT": _val_of_terms,
    "lower": _val_of_lower,
    "add": _val_of_elements,
    "sub": _val_of_elements,
    "mul": _val_of_elements,
    "scale": _val_of_elements,
    "shift": _val_of_elements,
    "relu": _val_of_elements,
    "drop": _val_of_elements,
    "sum": _val_of_terms,
    "join": _val_of_join,
    "take": _val_of_take,
}

INC_SOURCES = {
    "lin": _inc_of_terms,
    "bias": _inc_of_element,
    "mat": _inc_of_terms,
    "matT": _inc_of_terms,
    "lower": _inc_of_lower,
    "add": _inc_of_element,
    "sub": _inc_of_element,
    "mul": _inc_and_operands,
    "scale": _inc_of_element,
    "shift": _inc_of_element,
    "relu": _inc_and_operands,
    "drop": _inc_of_element,
    "sum": _inc_of_sum,
    "join": _inc_of_join,
    "take": _inc_of_take,
}

GRD_SOURCES = {
    "lin": _grd_of_lin,
    "bias": _grd_of_bias,
    "embed": _grd_of_embed,
}

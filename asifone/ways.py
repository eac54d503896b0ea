"""The ways in which words are made of the words of other names, their premises."""

from asifone.naming import WITH_RANGE, renumbered, val, with_range
from asifone.nets import operands
from asifone.sources import grd_sources, inc_sources, users_of, val_sources
from asifone.terms import term_of


def is_way(job, name, way):
    """True if the way is a way of the name."""
    if way[0] == "direct":
        return True
    if way[0] == "join":
        return name[0] in WITH_RANGE and name[-2] <= way[1] <= name[-1]
    return name[0] == "inc" and name[5] <= way[1] <= farthest_skip(job, name)


def ways_of(job, name):
    """The listed ways of a name, in order."""
    return [("direct",)] + _joins(name) + _skips(job, name)


def premises(job, name, way):
    """The premises of a name by a way, in order."""
    if way[0] == "join":
        lo, hi = name[-2:]
        return [with_range(name, lo, way[1]), with_range(name, way[1], hi)]
    if way[0] == "skip":
        return [renumbered(name, 5, way[1])]
    rule = DIRECT[name[0]]
    return rule(job, name)


def is_used(net, v, u):
    """True if the node v is an operand of the node u."""
    return v in operands(net.nodes[u])


def farthest_skip(job, name):
    """The greatest number to which an inc name can skip: the next node that uses its node, or that of all nodes."""
    _, _, _, v, _, u = name
    many = len(job.net.nodes)
    while u < many and not is_used(job.net, v, u):
        u += 1
    return u


def _joins(name):
    if name[0] not in WITH_RANGE:
        return []
    return [("join", m) for m in range(name[-2] + 1, name[-1])]


def _skips(job, name):
    if name[0] != "inc":
        return []
    return [("skip", m) for m in range(name[5] + 1, farthest_skip(job, name) + 1)]


# Each of the following functions tells the direct premises of a name of one kind.


def _of_par(job, name):
    n = name[1]
    if n == 0:
        return []
    return [renumbered(name, 1, n - 1), ("mom",) + name[1:]]


def _of_mom(job, name):
    _, n, p, i, j = name
    if n == 0:
        return []
    return [renumbered(name, 1, n - 1), ("grd", n - 1, p, i, j, 0, job.batch)]


def _of_val(job, name):
    return val_sources(job, name)


def _of_terms(job, name):
    lo, hi = name[-2:]
    return [factor for at in range(lo, hi) for factor in term_of(job, name, at)]


def _of_inc(job, name):
    _, n, t, v, j, u = name
    if u == len(job.net.nodes):
        return []
    first = inc_sources(job, n, t, u, v, j) if is_used(job.net, v, u) else []
    return first + [renumbered(name, 5, u + 1)]


def _of_grd(job, name):
    _, n, p, i, j, lo, hi = name
    users = users_of(job.net, p)
    return [source for t in range(lo, hi) for u in users for source in grd_sources(job, n, t, u, i, j)]


def _of_los(job, name):
    _, n, lo, hi = name
    return [val(n, t, len(job.net.nodes) - 1, 0) for t in range(lo, hi)]


DIRECT = {
    "par": _of_par,
    "mom": _of_mom,
    "val": _of_val,
    "pre": _of_terms,
    "inc": _of_inc,
    "bac": _of_terms,
    "grd": _of_grd,
    "los": _of_los,
}

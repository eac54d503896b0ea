"""The names of the words that ranks hold, and their order."""

from asifone.naming import KIND_NUMBERS
from asifone.nets import operands
from asifone.terms import bac_count, pre_count


def is_name(job, name):
    """True if the tuple is a name of the job."""
    rule = RULES[name[0]]
    numbers = name[2:]
    return rule(job, *numbers)


def code_of(name):
    """The code of a name: the number of its kind, and its numbers."""
    return (KIND_NUMBERS[name[0]],) + name[1:]


def place(job, name):
    """The tuple (step, phase, third number, code) by which names are ordered."""
    rule = PLACES[name[0]]
    phase, third = rule(len(job.net.nodes), name)
    return name[1], phase, third, code_of(name)


# Each of the following functions tells whether the numbers behind the step belong to a name of its kind.


def _is_cell(job, p, i, j):
    if p >= len(job.net.parameters):
        return False
    parameter = job.net.parameters[p]
    return i < parameter.rows and j < parameter.cols


def _is_element(job, t, v, j):
    return t < job.batch and v < len(job.net.lengths) and j < job.net.lengths[v]


def _is_pre(job, t, v, j, lo, hi):
    if not _is_element(job, t, v, j) or job.net.nodes[v][0] not in ("lin", "mat", "matT", "sum"):
        return False
    return lo <= hi <= pre_count(job.net, v)


def _is_inc(job, t, v, j, u):
    return _is_element(job, t, v, j) and v < u <= len(job.net.nodes)


def _is_bac(job, t, u, s, i, lo, hi):
    if t >= job.batch or u >= len(job.net.lengths) or job.net.nodes[u][0] not in ("lin", "mat", "matT"):
        return False
    given = operands(job.net.nodes[u])
    if s >= len(given) or i >= job.net.lengths[given[s]]:
        return False
    return lo <= hi <= bac_count(job.net, u, s)


def _is_grd(job, p, i, j, lo, hi):
    return _is_cell(job, p, i, j) and _is_los(job, lo, hi)


def _is_los(job, lo, hi):
    return lo <= hi <= job.batch


# Each of the following functions tells the phase and the third number of a name, from the number of nodes.


def _place_of_mom(many, name):
    return 0, 0


def _place_of_par(many, name):
    return 1, 0


def _place_of_val(many, name):
    return 3 + 2 * name[3], 0


def _place_of_pre(many, name):
    return 2 + 2 * name[3], _size(name)


def _place_of_los(many, name):
    return 2 + 2 * many, _size(name)


def _place_of_inc(many, name):
    _, _, _, v, _, u = name
    return 3 + 2 * many + 2 * (many - v), many - u


def _place_of_bac(many, name):
    return 4 + 2 * many + 2 * (many - name[3]), _size(name)


def _place_of_grd(many, name):
    return 5 + 4 * many, _size(name)


def _size(name):
    return name[-1] - name[-2]


RULES = {
    "par": _is_cell,
    "mom": _is_cell,
    "val": _is_element,
    "pre": _is_pre,
    "inc": _is_inc,
    "bac": _is_bac,
    "grd": _is_grd,
    "los": _is_los,
}

PLACES = {
    "mom": _place_of_mom,
    "par": _place_of_par,
    "pre": _place_of_pre,
    "val": _place_of_val,
    "los": _place_of_los,
    "inc": _place_of_inc,
    "bac": _place_of_bac,
    "grd": _place_of_grd,
}

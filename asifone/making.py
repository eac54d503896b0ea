"""The words that are made of the words of premises."""

from asifone.feed import sample_of, spot_of
from asifone.nets import beginning, operands
from asifone.process import new_moment, new_value
from asifone.scenes import is_dropped
from asifone.sources import grd_sources, users_of
from asifone.words import divided, total, wrap


def made(job, name, way, words):
    """The word that is made of the words of the premises, which stand in the order of the premises."""
    if way[0] != "direct":
        return total(words)
    rule = DIRECT[name[0]]
    return rule(job, name, words)


# Each of the following functions makes a name of one kind directly.


def _par(job, name, words):
    _, n, p, i, j = name
    if n == 0:
        return beginning(job.net, job.seed, p, i, j)
    return new_value(job, n - 1, words[0], words[1])


def _mom(job, name, words):
    return new_moment(job, words[0], words[1]) if name[1] > 0 else 0


def _val(job, name, words):
    node = job.net.nodes[name[3]]
    rule = VALUES[node[0]]
    return rule(job, name, node, words)


def _pre(job, name, words):
    if job.net.nodes[name[3]][0] == "sum":
        return total(words)
    return _products(words)


def _inc(job, name, words):
    _, n, t, v, j, u = name
    many = len(job.net.nodes)
    if u == many:
        return 1 if v == many - 1 else 0
    if v not in operands(job.net.nodes[u]):
        return words[0]
    node = job.net.nodes[u]
    rule = AMOUNTS[node[0]]
    return wrap(rule(job, name, node, words[:-1]) + words[-1])


def _bac(job, name, words):
    return _products(words)


def _grd(job, name, words):
    _, n, p, i, j, lo, hi = name
    users = users_of(job.net, p)
    result = start = 0
    for t in range(lo, hi):
        for u in users:
            end = start + len(grd_sources(job, n, t, u, i, j))
            rule = _products if job.net.nodes[u][0] == "lin" else total
            result += rule(words[start:end])
            start = end
    return wrap(result)


def _los(job, name, words):
    return total(words)


def _products(words):
    return total([a * b for a, b in zip(words[::2], words[1::2])])


def _is_dropped(job, n, t, v, j):
    return is_dropped(job.seed, spot_of(job, n, t), v, job.net.nodes[v][1], j)


# Each of the following functions makes the element j of a node of one kind.


def _of_input(job, name, node, words):
    _, n, t, _, j = name
    return sample_of(job, n, t)[0][j]


def _of_target(job, name, node, words):
    _, n, t, _, j = name
    return sample_of(job, n, t)[1][j]


def _total(job, name, node, words):
    return total(words)


def _sub(job, name, node, words):
    return wrap(words[0] - words[1])


def _mul(job, name, node, words):
    return wrap(words[0] * words[1])


def _relu(job, name, node, words):
    return max(words[0], 0)


def _drop(job, name, node, words):
    _, n, t, v, j = name
    return 0 if _is_dropped(job, n, t, v, j) else words[0]


# The following two serve for values and for adjoints.


def _scale(job, name, node, words):
    return wrap(node[1] * words[0])


def _shift(job, name, node, words):
    return divided(words[0], node[1])


# Each of the following functions makes what a node of one kind adds to the adjoint of the element j of v.


def _by_add(job, name, node, words):
    return words[0] * operands(node).count(name[3])


def _by_sub(job, name, node, words):
    _, a, b = node
    first = words[0] if a == name[3] else 0
    return first - words[0] if b == name[3] else first


def _by_mul(job, name, node, words):
    _, a, b = node
    d, of_a, of_b = words
    factors = [factor for operand, factor in ((a, of_b), (b, of_a)) if operand == name[3]]
    return d * sum(factors)


def _by_relu(job, name, node, words):
    return words[0] if words[1] > 0 else 0


def _by_drop(job, name, node, words):
    _, n, t, _, j, u = name
    return 0 if _is_dropped(job, n, t, u, j) else words[0]


DIRECT = {
    "par": _par,
    "mom": _mom,
    "val": _val,
    "pre": _pre,
    "inc": _inc,
    "bac": _bac,
    "grd": _grd,
    "los": _los,
}

VALUES = {
    "input": _of_input,
    "target": _of_target,
    "lin": _total,
    "bias": _total,
    "embed": _total,
    "mat": _total,
    "matT": _total,
    "lower": _total,
    "add": _total,
    "sub": _sub,
    "mul": _mul,
    "scale": _scale,
    "shift": _shift,
    "relu": _relu,
    "drop": _drop,
    "sum": _total,
    "join": _total,
    "take": _total,
}

AMOUNTS = {
    "lin": _total,
    "bias": _total,
    "mat": _total,
    "matT": _total,
    "lower": _total,
    "add": _by_add,
    "sub": _by_sub,
    "mul": _by_mul,
    "scale": _scale,
    "shift": _shift,
    "relu": _by_relu,
    "drop": _by_drop,
    "sum": _total,
    "join": _total,
    "take": _total,
}

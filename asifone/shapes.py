"""The lengths of nodes, and what nodes require."""

from asifone.kinds import OPERAND_PLACES, WITH_PARAMETER
from asifone.limits import GREATEST_NUMBER, LEAST_DIVISOR, MOST_SHIFT
from asifone.words import is_word


def is_multiple(n, c):
    """True if n is a multiple of c; no length is one of 0."""
    return c > 0 and n % c == 0


def is_inside(lo, n, length):
    """True if the n places from lo on lie within the length, and there is at least one."""
    return n >= 1 and lo >= 0 and lo + n <= length


def is_lower(j, c):
    """True if the element j, read in rows of length c as (x, y), has y at most x."""
    x, y = divmod(j, c)
    return y <= x


def length_of(net, known, node):
    """The length of a node after nodes of known lengths, or None if it lacks what it requires."""
    if not _names_exist(net, known, node):
        return None
    rule = LENGTHS[node[0]]
    return rule(net, known, node)


def _names_exist(net, known, node):
    kind = node[0]
    if kind not in OPERAND_PLACES:
        return False
    if kind in WITH_PARAMETER and not 0 <= node[1] < len(net.parameters):
        return False
    return all([0 <= node[at] < len(known) for at in OPERAND_PLACES[kind]])


def _of_inputs(net, known, node):
    return net.inputs


def _of_targets(net, known, node):
    return net.targets


def _of_lin(net, known, node):
    _, p, a = node
    parameter = net.parameters[p]
    if not is_multiple(known[a], parameter.rows):
        return None
    return known[a] // parameter.rows * parameter.cols


def _of_bias(net, known, node):
    _, p, a = node
    parameter = net.parameters[p]
    if parameter.rows != 1 or not is_multiple(known[a], parameter.cols):
        return None
    return known[a]


def _of_embed(net, known, node):
    _, p, lo, n = node
    if not is_inside(lo, n, net.inputs):
        return None
    return n * net.parameters[p].cols


def _of_mat(net, known, node):
    _, k, a, b = node
    if not is_multiple(known[a], k) or not is_multiple(known[b], k):
        return None
    return known[a] // k * (known[b] // k)


def _of_lower(net, known, node):
    _, c, a = node
    return known[a] if is_multiple(known[a], c) else None


def _of_pair(net, known, node):
    _, a, b = node
    return known[a] if known[a] == known[b] else None


def _of_scale(net, known, node):
    _, w, a = node
    return known[a] if is_word(w) else None


def _of_shift(net, known, node):
    _, k, a = node
    return known[a] if 0 <= k <= MOST_SHIFT else None


def _of_relu(net, known, node):
    return known[node[1]]


def _of_drop(net, known, node):
    _, m, a = node
    return known[a] if LEAST_DIVISOR <= m <= GREATEST_NUMBER else None


def _of_sum(net, known, node):
    return 1


def _of_join(net, known, node):
    _, a, b = node
    return known[a] + known[b]


def _of_take(net, known, node):
    _, lo, n, a = node
    return n if is_inside(lo, n, known[a]) else None


LENGTHS = {
    "input": _of_inputs,
    "target": _of_targets,
    "lin": _of_lin,
    "bias": _of_bias,
    "embed": _of_embed,
    "mat": _of_mat,
    "matT": _of_mat,
    "lower": _of_lower,
    "add": _of_pair,
    "sub": _of_pair,
    "mul": _of_pair,
    "scale": _of_scale,
    "shift": _of_shift,
    "relu": _of_relu,
    "drop": _of_drop,
    "sum": _of_sum,
    "join": _of_join,
    "take": _of_take,
}

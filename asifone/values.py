"""The values of nodes, forward."""

from asifone.matrices import flat, matrix_product, rows_of, sum_of, turned
from asifone.scenes import is_dropped, operand_values, row_of
from asifone.shapes import is_lower


def value_of(scene, v):
    """The list of the elements of the node v, computed from the values of the earlier nodes."""
    node = scene.net.nodes[v]
    rule = VALUES[node[0]]
    return rule(scene, v, node, operand_values(scene, node))


def forward(scene):
    """Computes all nodes, in order; a copy of the values that the scene then has."""
    scene.computed = []
    for v in range(len(scene.net.nodes)):
        scene.computed.append(value_of(scene, v))
    return [list(value) for value in scene.computed]


def _of_input(scene, v, node, given):
    return [scene.ring.still(word) for word in scene.sample[0]]


def _of_target(scene, v, node, given):
    return [scene.ring.still(word) for word in scene.sample[1]]


def _of_lin(scene, v, node, given):
    cells = scene.cells[node[1]]
    return flat(matrix_product(scene.ring, rows_of(given[0], len(cells)), cells))


def _of_bias(scene, v, node, given):
    row = scene.cells[node[1]][0]
    return [scene.ring.plus(a, row[at % len(row)]) for at, a in enumerate(given[0])]


def _of_embed(scene, v, node, given):
    _, p, lo, n = node
    return flat([scene.cells[p][row_of(scene.net, scene.sample, p, lo + x)] for x in range(n)])


def _of_mat(scene, v, node, given):
    a, b = given
    k = node[1]
    return flat(matrix_product(scene.ring, rows_of(a, k), rows_of(b, len(b) // k)))


def _of_mat_turned(scene, v, node, given):
    a, b = given
    k = node[1]
    return flat(matrix_product(scene.ring, rows_of(a, k), turned(rows_of(b, k))))


def _of_lower(scene, v, node, given):
    c = node[1]
    return [a if is_lower(at, c) else scene.ring.zero() for at, a in enumerate(given[0])]


def _of_add(scene, v, node, given):
    return [scene.ring.plus(a, b) for a, b in zip(given[0], given[1])]


def _of_sub(scene, v, node, given):
    return [scene.ring.minus(a, b) for a, b in zip(given[0], given[1])]


def _of_mul(scene, v, node, given):
    return [scene.ring.times(a, b) for a, b in zip(given[0], given[1])]


def _of_scale(scene, v, node, given):
    factor = scene.ring.still(node[1])
    return [scene.ring.times(factor, a) for a in given[0]]


def _of_shift(scene, v, node, given):
    return [scene.ring.divided(a, node[1]) for a in given[0]]


def _of_relu(scene, v, node, given):
    return [a if scene.ring.positive(a) else scene.ring.zero() for a in given[0]]


def _of_drop(scene, v, node, given):
    return [
        scene.ring.zero() if is_dropped(scene.seed, scene.spot, v, node[1], j) else a
        for j, a in enumerate(given[0])
    ]


def _of_sum(scene, v, node, given):
    return [sum_of(scene.ring, given[0])]


def _of_join(scene, v, node, given):
    return given[0] + given[1]


def _of_take(scene, v, node, given):
    _, lo, n, _ = node
    return given[0][lo:lo + n]


VALUES = {
    "input": _of_input,
    "target": _of_target,
    "lin": _of_lin,
    "bias": _of_bias,
    "embed": _of_embed,
    "mat": _of_mat,
    "matT": _of_mat_turned,
    "lower": _of_lower,
    "add": _of_add,
    "sub": _of_sub,
    "mul": _of_mul,
    "scale": _of_scale,
    "shift": _of_shift,
    "relu": _of_relu,
    "drop": _of_drop,
    "sum": _of_sum,
    "join": _of_join,
    "take": _of_take,
}

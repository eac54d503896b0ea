"""What nodes add to the adjoints of their operands and to the gradients of cells, backward."""

from asifone.matrices import flat, matrix_product, rows_of, sums, turned
from asifone.nets import operands
from asifone.scenes import is_dropped, operand_values, row_of
from asifone.shapes import is_lower


def backward(scene):
    """After forward: the pair of the adjoints, a list for each node, and of the gradients, cells."""
    ring = scene.ring
    adjoints = [[ring.zero() for _ in value] for value in scene.computed]
    adjoints[-1][0] = ring.one()
    gradients = [[[ring.zero() for _ in row] for row in matrix] for matrix in scene.cells]
    for u in reversed(range(len(scene.net.nodes))):
        _add_to_operands(scene, u, adjoints)
        _add_to_cells(scene, u, adjoints[u], gradients)
    return adjoints, gradients


def amounts_of(scene, u, d):
    """What the node u with the adjoint d adds to the adjoints of its operands: a vector for each of them."""
    node = scene.net.nodes[u]
    rule = AMOUNTS[node[0]]
    return rule(scene, u, node, d)


def _add_to_operands(scene, u, adjoints):
    amounts = amounts_of(scene, u, adjoints[u])
    for a, more in zip(operands(scene.net.nodes[u]), amounts):
        adjoints[a] = sums(scene.ring, adjoints[a], more)


def _add_to_cells(scene, u, d, gradients):
    node = scene.net.nodes[u]
    if node[0] not in CELL_AMOUNTS:
        return
    rule = CELL_AMOUNTS[node[0]]
    rows = gradients[node[1]]
    for i, more in rule(scene, node, d):
        rows[i] = sums(scene.ring, rows[i], more)


# Each of the following functions returns a vector for each operand of the node.


def _none(scene, u, node, d):
    return []


def _to_all(scene, u, node, d):
    return [d for _ in operands(node)]


def _by_lin(scene, u, node, d):
    cells = scene.cells[node[1]]
    return [flat(matrix_product(scene.ring, rows_of(d, len(cells[0])), turned(cells)))]


def _by_mat(scene, u, node, d):
    a, b = operand_values(scene, node)
    k = node[1]
    c = len(b) // k
    slopes = rows_of(d, c)
    to_a = matrix_product(scene.ring, slopes, turned(rows_of(b, c)))
    to_b = matrix_product(scene.ring, turned(rows_of(a, k)), slopes)
    return [flat(to_a), flat(to_b)]


def _by_mat_turned(scene, u, node, d):
    a, b = operand_values(scene, node)
    k = node[1]
    slopes = rows_of(d, len(b) // k)
    to_a = matrix_product(scene.ring, slopes, rows_of(b, k))
    to_b = matrix_product(scene.ring, turned(slopes), rows_of(a, k))
    return [flat(to_a), flat(to_b)]


def _by_lower(scene, u, node, d):
    c = node[1]
    return [[x if is_lower(at, c) else scene.ring.zero() for at, x in enumerate(d)]]


def _by_sub(scene, u, node, d):
    return [d, [scene.ring.minus(scene.ring.zero(), x) for x in d]]


def _by_mul(scene, u, node, d):
    a, b = operand_values(scene, node)
    to_a = [scene.ring.times(x, y) for x, y in zip(d, b)]
    to_b = [scene.ring.times(x, y) for x, y in zip(d, a)]
    return [to_a, to_b]


def _by_scale(scene, u, node, d):
    factor = scene.ring.still(node[1])
    return [[scene.ring.times(factor, x) for x in d]]


def _by_shift(scene, u, node, d):
    return [[scene.ring.divided(x, node[1]) for x in d]]


def _by_relu(scene, u, node, d):
    given = operand_values(scene, node)
    return [[x if scene.ring.positive(a) else scene.ring.zero() for x, a in zip(d, given[0])]]


def _by_drop(scene, u, node, d):
    return [[
        scene.ring.zero() if is_dropped(scene.seed, scene.spot, u, node[1], j) else x
        for j, x in enumerate(d)
    ]]


def _by_sum(scene, u, node, d):
    given = operand_values(scene, node)
    return [[d[0] for _ in given[0]]]


def _by_join(scene, u, node, d):
    given = operand_values(scene, node)
    border = len(given[0])
    return [d[:border], d[border:]]


def _by_take(scene, u, node, d):
    given = operand_values(scene, node)
    _, lo, n, _ = node
    before = [scene.ring.zero() for _ in range(lo)]
    behind = [scene.ring.zero() for _ in range(lo + n, len(given[0]))]
    return [before + d + behind]


# Each of the following functions returns pairs of a row of the parameter and of what is added to it.


def _cells_by_lin(scene, node, d):
    cells = scene.cells[node[1]]
    given = operand_values(scene, node)
    columns = turned(rows_of(given[0], len(cells)))
    return list(enumerate(matrix_product(scene.ring, columns, rows_of(d, len(cells[0])))))


def _cells_by_bias(scene, node, d):
    cells = scene.cells[node[1]]
    return [(0, row) for row in rows_of(d, len(cells[0]))]


def _cells_by_embed(scene, node, d):
    _, p, lo, _ = node
    rows = rows_of(d, len(scene.cells[p][0]))
    return [(row_of(scene.net, scene.sample, p, lo + x), row) for x, row in enumerate(rows)]


AMOUNTS = {
    "input": _none,
    "target": _none,
    "lin": _by_lin,
    "bias": _to_all,
    "embed": _none,
    "mat": _by_mat,
    "matT": _by_mat_turned,
    "lower": _by_lower,
    "add": _to_all,
    "sub": _by_sub,
    "mul": _by_mul,
    "scale": _by_scale,
    "shift": _by_shift,
    "relu": _by_relu,
    "drop": _by_drop,
    "sum": _by_sum,
    "join": _by_join,
    "take": _by_take,
}

CELL_AMOUNTS = {
    "lin": _cells_by_lin,
    "bias": _cells_by_bias,
    "embed": _cells_by_embed,
}

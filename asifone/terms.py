"""The terms of the sums of which pre and bac names are parts.

A lin, mat or matT node is a matrix product: its element (x, y) is the sum over i of left(x, i) * right(i, y), where
left is its first operand and right is its parameter or its second operand. What it adds to its operands are such sums
of left or right and of its own adjoint.
"""

from asifone.naming import adj, par, val
from asifone.nets import sides


def count_of(job, name):
    """The number of terms of the sum of which a pre or bac name is a part."""
    if name[0] == "pre":
        return pre_count(job.net, name[3])
    return bac_count(job.net, name[3], name[4])


def pre_count(net, v):
    """The number of terms of an element of a lin, mat, matT or sum node."""
    node = net.nodes[v]
    if node[0] == "sum":
        return net.lengths[node[1]]
    return sides(net, v)[1]


def bac_count(net, u, s):
    """The number of terms of what a lin, mat or matT node adds to an element of its operand s."""
    many, _, length = sides(net, u)
    return length if s == 0 else many


def term_of(job, name, at):
    """The factors of the term at of the sum of which a pre or bac name is a part: one or two names."""
    if name[0] == "pre":
        _, n, t, v, j = name[:5]
        return _pre_term(job.net, n, t, v, j, at)
    _, n, t, u, s, i = name[:6]
    rule = _first_term if s == 0 else _second_term
    return rule(job.net, n, t, u, i, at)


def _pre_term(net, n, t, v, j, i):
    node = net.nodes[v]
    if node[0] == "sum":
        return (val(n, t, node[1], i),)
    x, y = divmod(j, sides(net, v)[2])
    return _left(net, n, t, v, x, i), _right(net, n, t, v, i, y)


def _first_term(net, n, t, u, at, z):
    _, k, c = sides(net, u)
    x, i = divmod(at, k)
    return adj(n, t, u, x * c + z), _right(net, n, t, u, i, z)


def _second_term(net, n, t, u, at, z):
    _, k, c = sides(net, u)
    if net.nodes[u][0] == "mat":
        i, y = divmod(at, c)
    else:
        y, i = divmod(at, k)
    return _left(net, n, t, u, z, i), adj(n, t, u, z * c + y)


def _left(net, n, t, v, x, i):
    return val(n, t, net.nodes[v][2], x * sides(net, v)[1] + i)


def _right(net, n, t, v, i, y):
    node = net.nodes[v]
    _, k, c = sides(net, v)
    if node[0] == "lin":
        return par(n, node[1], i, y)
    return val(n, t, node[3], i * c + y if node[0] == "mat" else y * k + i)

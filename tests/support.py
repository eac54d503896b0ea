"""What several tests share: random networks and jobs, and the tables of the document, computed slowly."""

import random

from asifone.jobs import Job
from asifone.nets import Net, Parameter, operands
from asifone.shapes import length_of
from asifone.terms import count_of
from asifone.words import mixed, unsigned

LEAST = -2147483648
GREATEST = 2147483647
KINDS = ("input", "target", "lin", "bias", "embed", "mat", "matT", "lower", "add", "sub", "mul", "scale", "shift",
         "relu", "drop", "sum", "join", "take")

EXAMPLE = """# one layer, squared error
input 2
target 1
param w 2 1 mixed 24
param b 1 1 same 0
h = relu(shift(input @ w, 8) + b)
d = h - target
loss sum(d * d)
batch 2
rate 0 1
sample 3 -1 | 2
sample 5 7 | 0"""


# All kinds of nodes; the nodes are numbered as their names tell.
WHOLE = """input 4
target 2
param w 2 3 mixed 26
param b 1 3 same 5
param e 3 2 mixed 28
n0 = input
n1 = n0 @ w
n2 = n1 + b
n3 = embed(e, 1, 3)
n4 = mat(n2, n3, 2)
n5 = matT(n2, n3, 3)
n6 = lower(n4, 3)
n7 = shift(n6, 2)
n8 = relu(n7)
n9 = drop(n8, 3)
n10 = -2 * n9
n11 = n10 - n4
n12 = n11 + n11
n13 = n12 * n6
n14 = join(n5, n5)
n15 = take(n14, 1, 3)
n16 = target
n17 = join(n15, n16)
n18 = mat(n15, n15, 3)
n19 = matT(n13, n13, 3)
n20 = sum(n19)
n21 = sum(n17)
n22 = n20 + n18
loss n22 * n21
batch 3
seed 11
beta 3
point 2
rate 0 5
rate 3 -2
sample 1 -2 3 4 | 5 6
sample 1 7 -1 2 | 1 1
sample 9 5 2 -6 | -3 4
sample 1 2 8 1 | 0 -7"""


def some_word(rng):
    small = rng.randrange(-9, 10)
    return rng.choice([small, small, small, rng.randrange(LEAST, GREATEST + 1), LEAST, GREATEST, 0])


def some_node(rng, kind, many, parameters):
    """A node of this kind that may lack what it requires."""
    # Late nodes are taken often, so that most nodes have a part in the loss.
    late = max(0, many - 1 - rng.randrange(3))
    a, b = rng.choice([late, late, rng.randrange(many)]), rng.choice([late, rng.randrange(many)])
    p = rng.randrange(parameters)
    if rng.randrange(4) == 0:
        b = a
    rows = {
        "input": (), "target": (), "lin": (p, a), "bias": (p, a), "embed": (p, rng.randrange(4), rng.randrange(1, 4)),
        "mat": (rng.randrange(1, 5), a, b), "matT": (rng.randrange(1, 5), a, b), "lower": (rng.randrange(1, 5), a),
        "add": (a, b), "sub": (a, b), "mul": (a, b), "scale": (some_word(rng), a), "shift": (rng.randrange(32), a),
        "relu": (a,), "drop": (rng.choice([2, 3, 4, 4294967295]), a), "sum": (a,), "join": (a, b),
        "take": (rng.randrange(4), rng.randrange(1, 5), a),
    }
    return (kind, *rows[kind])


def some_net(rng, kinds=KINDS):
    """A random network; kinds that fit seldom are tried more often, those that lead to short nodes less often."""
    many = [*kinds, *kinds, "lin", "bias", "bias", "bias", "embed", "mat", "matT"]
    many = [kind for kind in many if kind not in ("sum", "scale", "relu")] + ["sum", "scale", "relu"]
    kinds = [kind for kind in many if kind in kinds]
    fills = [rng.choice([("same", some_word(rng)), ("mixed", rng.randrange(32))]) for _ in range(8)]
    parameters = [Parameter(rng.choice([1, 1, 2, 3, 6]), rng.choice([1, 2, 3, 6]), fill) for fill in fills]
    parameters = parameters[:rng.randrange(1, 9)]
    net = Net(rng.randrange(1, 9), rng.randrange(1, 9), parameters, [])
    nodes, known = [("input",)], [net.inputs]
    for _ in range(80):
        node = some_node(rng, rng.choice(kinds), len(nodes), len(parameters))
        length = length_of(net, known, node)
        if length is not None and length <= 12 and len(nodes) < 23:
            nodes.append(node)
            known.append(length)
    nodes.append(("sum", len(nodes) - 1))
    return Net(net.inputs, net.targets, parameters, nodes)


def live_net(rng, kinds=KINDS):
    """A random network in which every node has a part in the loss: what no node uses is summed and added at the end."""
    net = some_net(rng, kinds)
    nodes = net.nodes[:rng.randrange(5, 13)]
    used = {a for node in nodes for a in operands(node)}
    ends = [v for v in range(len(nodes)) if v not in used and nodes[v][0] not in ("input", "target")]
    ends = ends[-5:] or [len(nodes) - 1]
    for at, v in enumerate(ends):
        nodes.append(("sum", v))
        if at > 0:
            nodes.append(("add", len(nodes) - 2, len(nodes) - 1))
    nodes = [("shift", node[1] % 4, node[2]) if node[0] == "shift" else node for node in nodes]
    return Net(net.inputs, net.targets, net.parameters, nodes)


def some_cells(rng, net):
    return [[[some_word(rng) for _ in range(one.cols)] for _ in range(one.rows)] for one in net.parameters]


def some_sample(rng, net):
    return ([some_word(rng) for _ in range(net.inputs)], [some_word(rng) for _ in range(net.targets)])


def some_job(rng, kinds=KINDS, rule=some_net):
    net = rule(rng, kinds)
    starts = [rng.choice([0, 0, 1, 7, 4294967295]) for _ in range(rng.randrange(5))]
    rates = [(start, some_word(rng)) for start in starts]
    data = [some_sample(rng, net) for _ in range(rng.randrange(1, 13))]
    point = rng.choice([0, 1, 2, 5, 31, rng.randrange(32)])
    return Job(net, some_word(rng), rng.randrange(1, 5), some_word(rng), point, rates, data)


def live_job(rng, kinds=KINDS):
    return some_job(rng, kinds, live_net)


def some_name(rng, job):
    """A random name of the job, of each kind alike."""
    net, n, t = job.net, rng.choice([0, 1, 2, 2, 10 ** 30]), rng.randrange(job.batch)
    kind = rng.choice(("par", "mom", "val", "pre", "inc", "bac", "grd", "los"))
    p = rng.randrange(len(net.parameters))
    cell = (p, rng.randrange(net.parameters[p].rows), rng.randrange(net.parameters[p].cols))
    if kind in ("par", "mom"):
        return (kind, n, *cell)
    if kind == "grd":
        return (kind, n, *cell, *some_range(rng, job.batch))
    if kind == "los":
        return (kind, n, *some_range(rng, job.batch))
    wanted = {"pre": ("lin", "mat", "matT", "sum"), "bac": ("lin", "mat", "matT")}.get(kind, KINDS)
    nodes = [v for v, node in enumerate(net.nodes) if node[0] in wanted]
    if not nodes:
        return ("los", n, *some_range(rng, job.batch))
    v = rng.choice(nodes)
    if kind == "bac":
        s = rng.randrange(len(operands(net.nodes[v])))
        i = rng.randrange(net.lengths[operands(net.nodes[v])[s]])
        return (kind, n, t, v, s, i, *some_range(rng, count_of(job, (kind, n, t, v, s, i, 0, 0))))
    j = rng.randrange(net.lengths[v])
    if kind == "pre":
        return (kind, n, t, v, j, *some_range(rng, count_of(job, (kind, n, t, v, j, 0, 0))))
    return (kind, n, t, v, j) if kind == "val" else (kind, n, t, v, j, rng.randrange(v + 1, len(net.nodes) + 1))


def some_range(rng, many):
    return sorted((rng.randrange(many + 1), rng.randrange(many + 1)))


def told(job):
    """Everything that a job holds."""
    net = job.net
    return (
        net.inputs, net.targets, [(one.rows, one.cols, one.fill) for one in net.parameters], net.nodes, net.lengths,
        job.seed, job.batch, job.factor, job.point, job.rates, job.data,
    )


def rng_of(seed):
    return random.Random(seed)


class Slow:
    """The tables of [7] and [9], element by element."""

    def __init__(self, scene):
        self.scene = scene
        self.ring = scene.ring
        self.net = scene.net

    def total(self, numbers):
        result = self.ring.zero()
        for number in numbers:
            result = self.ring.plus(result, number)
        return result

    def sides(self, node):
        """The numbers (m, r, c) of a lin, mat or matT node."""
        values = self.scene.computed
        if node[0] == "lin":
            rows, cols = self.net.parameters[node[1]].rows, self.net.parameters[node[1]].cols
            return len(values[node[2]]) // rows, rows, cols
        return len(values[node[2]]) // node[1], node[1], len(values[node[3]]) // node[1]

    def row(self, p, at):
        return unsigned(self.scene.sample[0][at]) % self.net.parameters[p].rows

    def dropped(self, v, j):
        return unsigned(mixed(self.scene.seed, [1, self.scene.spot, v, j])) % self.net.nodes[v][1] == 0

    def value(self, v):
        return [self.element(v, j) for j in range(self.net.lengths[v])]

    def element(self, v, j):
        node, ring, values, cells = self.net.nodes[v], self.ring, self.scene.computed, self.scene.cells
        kind = node[0]
        if kind in ("input", "target"):
            return ring.still(self.scene.sample[("input", "target").index(kind)][j])
        if kind in ("lin", "mat", "matT"):
            _, r, c = self.sides(node)
            x, y = j // c, j % c
            a = values[node[2]]
            right = {
                "lin": lambda i: cells[node[1]][i][y],
                "mat": lambda i: values[node[3]][i * c + y],
                "matT": lambda i: values[node[3]][y * r + i],
            }[kind]
            return self.total([ring.times(a[x * r + i], right(i)) for i in range(r)])
        if kind == "bias":
            cols = self.net.parameters[node[1]].cols
            return ring.plus(values[node[2]][j], cells[node[1]][0][j % cols])
        if kind == "embed":
            cols = self.net.parameters[node[1]].cols
            return cells[node[1]][self.row(node[1], node[2] + j // cols)][j % cols]
        if kind == "lower":
            return values[node[2]][j] if j % node[1] <= j // node[1] else ring.zero()
        if kind in ("add", "sub", "mul"):
            method = {"add": ring.plus, "sub": ring.minus, "mul": ring.times}[kind]
            return method(values[node[1]][j], values[node[2]][j])
        if kind == "scale":
            return ring.times(ring.still(node[1]), values[node[2]][j])
        if kind == "shift":
            return ring.divided(values[node[2]][j], node[1])
        if kind == "relu":
            return values[node[1]][j] if ring.positive(values[node[1]][j]) else ring.zero()
        if kind == "drop":
            return ring.zero() if self.dropped(v, j) else values[node[2]][j]
        if kind == "sum":
            return self.total(values[node[1]])
        if kind == "join":
            return (values[node[1]] + values[node[2]])[j]
        return values[node[3]][node[1] + j]

    def backward(self):
        ring, values = self.ring, self.scene.computed
        self.adjoints = [[ring.zero() for _ in value] for value in values]
        self.adjoints[-1][0] = ring.one()
        self.gradients = [[[ring.zero() for _ in row] for row in matrix] for matrix in self.scene.cells]
        for u in range(len(values) - 1, -1, -1):
            self.process(u)
        return self.adjoints, self.gradients

    def to(self, a, j, amount):
        self.adjoints[a][j] = self.ring.plus(self.adjoints[a][j], amount)

    def to_cell(self, p, i, j, amount):
        self.gradients[p][i][j] = self.ring.plus(self.gradients[p][i][j], amount)

    def process(self, u):
        node, ring, values, cells = self.net.nodes[u], self.ring, self.scene.computed, self.scene.cells
        d, kind = list(self.adjoints[u]), node[0]
        if kind in ("lin", "mat", "matT"):
            m, r, c = self.sides(node)
            a = values[node[2]]
            for x in range(m):
                for i in range(r):
                    for y in range(c):
                        if kind == "lin":
                            self.to(node[2], x * r + i, ring.times(d[x * c + y], cells[node[1]][i][y]))
                            self.to_cell(node[1], i, y, ring.times(a[x * r + i], d[x * c + y]))
                        else:
                            at = i * c + y if kind == "mat" else y * r + i
                            self.to(node[2], x * r + i, ring.times(d[x * c + y], values[node[3]][at]))
                            self.to(node[3], at, ring.times(a[x * r + i], d[x * c + y]))
            return
        for j, amount in enumerate(d):
            self.spread(u, node, kind, j, amount)

    def spread(self, u, node, kind, j, amount):
        ring, values = self.ring, self.scene.computed
        zero = ring.zero()
        if kind == "bias":
            self.to(node[2], j, amount)
            self.to_cell(node[1], 0, j % self.net.parameters[node[1]].cols, amount)
        elif kind == "embed":
            cols = self.net.parameters[node[1]].cols
            self.to_cell(node[1], self.row(node[1], node[2] + j // cols), j % cols, amount)
        elif kind == "lower":
            self.to(node[2], j, amount if j % node[1] <= j // node[1] else zero)
        elif kind == "add":
            self.to(node[1], j, amount)
            self.to(node[2], j, amount)
        elif kind == "sub":
            self.to(node[1], j, amount)
            self.to(node[2], j, ring.minus(zero, amount))
        elif kind == "mul":
            self.to(node[1], j, ring.times(amount, values[node[2]][j]))
            self.to(node[2], j, ring.times(amount, values[node[1]][j]))
        elif kind == "scale":
            self.to(node[2], j, ring.times(ring.still(node[1]), amount))
        elif kind == "shift":
            self.to(node[2], j, ring.divided(amount, node[1]))
        elif kind == "relu":
            self.to(node[1], j, amount if ring.positive(values[node[1]][j]) else zero)
        elif kind == "drop":
            self.to(node[2], j, zero if self.dropped(u, j) else amount)
        elif kind == "sum":
            for at in range(len(values[node[1]])):
                self.to(node[1], at, amount)
        elif kind == "join":
            first = len(values[node[1]])
            self.to(node[1] if j < first else node[2], j if j < first else j - first, amount)
        elif kind == "take":
            self.to(node[3], node[1] + j, amount)

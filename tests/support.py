"""What several tests share: job texts, random networks, jobs and names."""

import random

from asifone.jobs import Job
from asifone.layouts import Layout, fits
from asifone.nets import Net, Parameter, operands
from asifone.shapes import length_of
from asifone.terms import count_of

LEAST = -2147483648
GREATEST = 2147483647
KINDS = ("input", "target", "lin", "bias", "embed", "mat", "matT", "lower", "add", "sub", "mul", "scale", "shift",
         "relu", "drop", "sum", "join", "take")

EXAMPLE = """# one layer, squared error
input 2
target 1
param w 2 1 mixed 24
param b 1 1 same 0
h = relu(shift(input @ w, 8) + b)
d = h - target
loss sum(d * d)
batch 2
rate 0 1
sample 3 -1 | 2
sample 5 7 | 0"""


# All kinds of nodes; the nodes are numbered as their names tell.
WHOLE = """input 4
target 2
param w 2 3 mixed 26
param b 1 3 same 5
param e 3 2 mixed 28
n0 = input
n1 = n0 @ w
n2 = n1 + b
n3 = embed(e, 1, 3)
n4 = mat(n2, n3, 2)
n5 = matT(n2, n3, 3)
n6 = lower(n4, 3)
n7 = shift(n6, 2)
n8 = relu(n7)
n9 = drop(n8, 3)
n10 = -2 * n9
n11 = n10 - n4
n12 = n11 + n11
n13 = n12 * n6
n14 = join(n5, n5)
n15 = take(n14, 1, 3)
n16 = target
n17 = join(n15, n16)
n18 = mat(n15, n15, 3)
n19 = matT(n13, n13, 3)
n20 = sum(n19)
n21 = sum(n17)
n22 = n20 + n18
loss n22 * n21
batch 3
seed 11
beta 3
point 2
rate 0 5
rate 3 -2
sample 1 -2 3 4 | 5 6
sample 1 7 -1 2 | 1 1
sample 9 5 2 -6 | -3 4
sample 1 2 8 1 | 0 -7"""


# A network whose nodes need one another as in the example of the letters: c is made of a and b, d of b and c.
LETTERS = """input 1
target 1
a = input
b = target
c = a * b
d = b * c
loss d
sample 2 | 3"""


def some_word(rng):
    small = rng.randrange(-9, 10)
    return rng.choice([small, small, small, rng.randrange(LEAST, GREATEST + 1), LEAST, GREATEST, 0])


def some_node(rng, kind, many, parameters):
    """A node of this kind that may lack what it requires."""
    # Late nodes are taken often, so that most nodes have a part in the loss.
    late = max(0, many - 1 - rng.randrange(3))
    a, b = rng.choice([late, late, rng.randrange(many)]), rng.choice([late, rng.randrange(many)])
    p = rng.randrange(parameters)
    if rng.randrange(4) == 0:
        b = a
    rows = {
        "input": (), "target": (), "lin": (p, a), "bias": (p, a), "embed": (p, rng.randrange(4), rng.randrange(1, 4)),
        "mat": (rng.randrange(1, 5), a, b), "matT": (rng.randrange(1, 5), a, b), "lower": (rng.randrange(1, 5), a),
        "add": (a, b), "sub": (a, b), "mul": (a, b), "scale": (some_word(rng), a), "shift": (rng.randrange(32), a),
        "relu": (a,), "drop": (rng.choice([2, 3, 4, 4294967295]), a), "sum": (a,), "join": (a, b),
        "take": (rng.randrange(4), rng.randrange(1, 5), a),
    }
    return (kind, *rows[kind])


def some_net(rng, kinds=KINDS):
    """A random network; kinds that fit seldom are tried more often, those that lead to short nodes less often."""
    many = [*kinds, *kinds, "lin", "bias", "bias", "bias", "embed", "mat", "matT"]
    many = [kind for kind in many if kind not in ("sum", "scale", "relu")] + ["sum", "scale", "relu"]
    kinds = [kind for kind in many if kind in kinds]
    fills = [rng.choice([("same", some_word(rng)), ("mixed", rng.randrange(32))]) for _ in range(8)]
    parameters = [Parameter(rng.choice([1, 1, 2, 3, 6]), rng.choice([1, 2, 3, 6]), fill) for fill in fills]
    parameters = parameters[:rng.randrange(1, 9)]
    net = Net(rng.randrange(1, 9), rng.randrange(1, 9), parameters, [])
    nodes, known = [("input",)], [net.inputs]
    for _ in range(80):
        node = some_node(rng, rng.choice(kinds), len(nodes), len(parameters))
        length = length_of(net, known, node)
        if length is not None and length <= 12 and len(nodes) < 23:
            nodes.append(node)
            known.append(length)
    nodes.append(("sum", len(nodes) - 1))
    return Net(net.inputs, net.targets, parameters, nodes)


def live_net(rng, kinds=KINDS):
    """A random network in which every node has a part in the loss: what no node uses is summed and added at the end."""
    net = some_net(rng, kinds)
    nodes = net.nodes[:rng.randrange(5, 13)]
    used = {a for node in nodes for a in operands(node)}
    ends = [v for v in range(len(nodes)) if v not in used and nodes[v][0] not in ("input", "target")]
    ends = ends[-5:] or [len(nodes) - 1]
    for at, v in enumerate(ends):
        nodes.append(("sum", v))
        if at > 0:
            nodes.append(("add", len(nodes) - 2, len(nodes) - 1))
    nodes = [("shift", node[1] % 4, node[2]) if node[0] == "shift" else node for node in nodes]
    return Net(net.inputs, net.targets, net.parameters, nodes)


def some_cells(rng, net):
    return [[[some_word(rng) for _ in range(one.cols)] for _ in range(one.rows)] for one in net.parameters]


def some_sample(rng, net):
    return ([some_word(rng) for _ in range(net.inputs)], [some_word(rng) for _ in range(net.targets)])


def some_job(rng, kinds=KINDS, rule=some_net):
    net = rule(rng, kinds)
    starts = [rng.choice([0, 0, 1, 7, 4294967295]) for _ in range(rng.randrange(5))]
    rates = [(start, some_word(rng)) for start in starts]
    data = [some_sample(rng, net) for _ in range(rng.randrange(1, 13))]
    point = rng.choice([0, 1, 2, 5, 31, rng.randrange(32)])
    return Job(net, some_word(rng), rng.randrange(1, 5), some_word(rng), point, rates, data)


def live_job(rng, kinds=KINDS):
    return some_job(rng, kinds, live_net)


def some_name(rng, job, steps=(0, 1, 2, 2, 10 ** 30)):
    """A random name of the job, of each kind alike."""
    net, n, t = job.net, rng.choice(steps), rng.randrange(job.batch)
    kind = rng.choice(("par", "mom", "val", "pre", "inc", "bac", "grd", "los"))
    p = rng.randrange(len(net.parameters))
    cell = (p, rng.randrange(net.parameters[p].rows), rng.randrange(net.parameters[p].cols))
    if kind in ("par", "mom"):
        return (kind, n, *cell)
    if kind == "grd":
        return (kind, n, *cell, *some_range(rng, job.batch))
    if kind == "los":
        return (kind, n, *some_range(rng, job.batch))
    wanted = {"pre": ("lin", "mat", "matT", "sum"), "bac": ("lin", "mat", "matT")}.get(kind, KINDS)
    nodes = [v for v, node in enumerate(net.nodes) if node[0] in wanted]
    if not nodes:
        return ("los", n, *some_range(rng, job.batch))
    v = rng.choice(nodes)
    if kind == "bac":
        s = rng.randrange(len(operands(net.nodes[v])))
        i = rng.randrange(net.lengths[operands(net.nodes[v])[s]])
        return (kind, n, t, v, s, i, *some_range(rng, count_of(job, (kind, n, t, v, s, i, 0, 0))))
    j = rng.randrange(net.lengths[v])
    if kind == "pre":
        return (kind, n, t, v, j, *some_range(rng, count_of(job, (kind, n, t, v, j, 0, 0))))
    return (kind, n, t, v, j) if kind == "val" else (kind, n, t, v, j, rng.randrange(v + 1, len(net.nodes) + 1))


def some_range(rng, many):
    return sorted((rng.randrange(many + 1), rng.randrange(many + 1)))


def some_layout(rng, job):
    """A random layout that fits the job."""
    many = len(job.net.nodes)
    while True:
        stages = sorted(rng.sample(range(1, many), min(many - 1, rng.choice([0, 0, 1, 2]))))
        cut = [rng.randrange(3) > 0 for _ in range(many)]
        layout = Layout(rng.randrange(1, 5), stages, rng.choice([1, 2, 3, 4]), cut, rng.random() < 0.5,
                        rng.random() < 0.5)
        if fits(job, layout):
            return layout


def told_layout(layout):
    """Everything that a layout holds."""
    return layout.copies, layout.stages, layout.ways, layout.cut, layout.spread, layout.redo


def told(job):
    """Everything that a job holds."""
    net = job.net
    return (
        net.inputs, net.targets, [(one.rows, one.cols, one.fill) for one in net.parameters], net.nodes, net.lengths,
        job.seed, job.batch, job.factor, job.point, job.rates, job.data,
    )


def rng_of(seed):
    return random.Random(seed)


def small_job(rng, most=40, cells=10):
    """A random job with few elements and cells, so that its plans are short."""
    while True:
        job = live_job(rng)
        if sum(job.net.lengths) <= most and sum(one.rows * one.cols for one in job.net.parameters) <= cells:
            return job


def tiny_net(rng, kinds=KINDS):
    """A random network of few short nodes and few small parameters."""
    fill = ("mixed", rng.choice([24, 28, 30]))
    parameters = [Parameter(rng.choice([1, 2]), rng.choice([1, 2]), fill) for _ in range(rng.choice([0, 1, 1, 2, 2]))]
    net = Net(rng.choice([1, 2]), rng.choice([1, 2]), parameters, [])
    nodes, known = [("input",)], [net.inputs]
    many = [*kinds, "lin", "lin", "bias", "bias", "embed"]
    for _ in range(40):
        node = some_node(rng, rng.choice(many), len(nodes), max(1, len(parameters)))
        length = length_of(net, known, node)
        if length is not None and length <= 4 and len(nodes) < 7:
            nodes.append(("shift", node[1] % 4, node[2]) if node[0] == "shift" else node)
            known.append(length)
    return Net(net.inputs, net.targets, parameters, nodes + [("sum", len(nodes) - 1)])


def tiny_job(rng):
    """A random job of a tiny network."""
    job = some_job(rng, KINDS, tiny_net)
    return Job(job.net, job.seed, job.batch, job.factor, job.point % 4, job.rates, job.data)

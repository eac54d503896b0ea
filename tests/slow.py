"""What the document computes, computed slowly: the tables of [7] and [9], a step [15], and the words of names [37]."""

from asifone.feed import sample_at
from asifone.nets import beginnings
from asifone.rings import WordRing
from asifone.scenes import Scene
from asifone.words import mixed, unsigned


def word(n):
    return (n + 2 ** 31) % 2 ** 32 - 2 ** 31


def rounded(n, k):
    return n if k == 0 else word(n + 2 ** (k - 1)) // 2 ** k


def slow_scene(job, cells, step, t):
    one = SlowSample(job, cells, step, t)
    return one.scene.computed, one.adjoints, one.gradients


def slow_rate(job, step):
    words = [rate for start, rate in job.rates if start <= step]
    return words[-1] if words else 0


def slow_next(job, step, cells, moments):
    scenes = [slow_scene(job, cells, step, t) for t in range(job.batch)]
    cells, moments = [[list(row) for row in one] for one in cells], [[list(row) for row in one] for one in moments]
    for p, parameter in enumerate(job.net.parameters):
        for i in range(parameter.rows):
            for j in range(parameter.cols):
                g = sum(gradients[p][i][j] for _, _, gradients in scenes)
                m = word(rounded(word(job.factor * moments[p][i][j]), job.point) + g)
                moments[p][i][j] = m
                w = cells[p][i][j]
                cells[p][i][j] = word(w - rounded(word(slow_rate(job, step) * m), job.point))
    return cells, moments, word(sum(values[-1][0] for values, _, _ in scenes))


class Slow:
    """The tables of [7] and [9], element by element."""

    def __init__(self, scene):
        self.scene = scene
        self.ring = scene.ring
        self.net = scene.net

    def total(self, numbers):
        result = self.ring.zero()
        for number in numbers:
            result = self.ring.plus(result, number)
        return result

    def sides(self, node):
        """The numbers (m, r, c) of a lin, mat or matT node."""
        values = self.scene.computed
        if node[0] == "lin":
            rows, cols = self.net.parameters[node[1]].rows, self.net.parameters[node[1]].cols
            return len(values[node[2]]) // rows, rows, cols
        return len(values[node[2]]) // node[1], node[1], len(values[node[3]]) // node[1]

    def row(self, p, at):
        return unsigned(self.scene.sample[0][at]) % self.net.parameters[p].rows

    def dropped(self, v, j):
        return unsigned(mixed(self.scene.seed, [1, self.scene.spot, v, j])) % self.net.nodes[v][1] == 0

    def value(self, v):
        return [self.element(v, j) for j in range(self.net.lengths[v])]

    def element(self, v, j):
        node, ring, values, cells = self.net.nodes[v], self.ring, self.scene.computed, self.scene.cells
        kind = node[0]
        if kind in ("input", "target"):
            return ring.still(self.scene.sample[("input", "target").index(kind)][j])
        if kind in ("lin", "mat", "matT"):
            _, r, c = self.sides(node)
            x, y = j // c, j % c
            a = values[node[2]]
            right = {
                "lin": lambda i: cells[node[1]][i][y],
                "mat": lambda i: values[node[3]][i * c + y],
                "matT": lambda i: values[node[3]][y * r + i],
            }[kind]
            return self.total([ring.times(a[x * r + i], right(i)) for i in range(r)])
        if kind == "bias":
            cols = self.net.parameters[node[1]].cols
            return ring.plus(values[node[2]][j], cells[node[1]][0][j % cols])
        if kind == "embed":
            cols = self.net.parameters[node[1]].cols
            return cells[node[1]][self.row(node[1], node[2] + j // cols)][j % cols]
        if kind == "lower":
            return values[node[2]][j] if j % node[1] <= j // node[1] else ring.zero()
        if kind in ("add", "sub", "mul"):
            method = {"add": ring.plus, "sub": ring.minus, "mul": ring.times}[kind]
            return method(values[node[1]][j], values[node[2]][j])
        if kind == "scale":
            return ring.times(ring.still(node[1]), values[node[2]][j])
        if kind == "shift":
            return ring.divided(values[node[2]][j], node[1])
        if kind == "relu":
            return values[node[1]][j] if ring.positive(values[node[1]][j]) else ring.zero()
        if kind == "drop":
            return ring.zero() if self.dropped(v, j) else values[node[2]][j]
        if kind == "sum":
            return self.total(values[node[1]])
        if kind == "join":
            return (values[node[1]] + values[node[2]])[j]
        return values[node[3]][node[1] + j]

    def backward(self):
        ring, values = self.ring, self.scene.computed
        self.adjoints = [[ring.zero() for _ in value] for value in values]
        self.adjoints[-1][0] = ring.one()
        self.gradients = [[[ring.zero() for _ in row] for row in matrix] for matrix in self.scene.cells]
        for u in range(len(values) - 1, -1, -1):
            self.process(u)
        return self.adjoints, self.gradients

    def to(self, a, j, amount):
        self.adjoints[a][j] = self.ring.plus(self.adjoints[a][j], amount)

    def to_cell(self, p, i, j, amount):
        self.gradients[p][i][j] = self.ring.plus(self.gradients[p][i][j], amount)

    def process(self, u):
        node, ring, values, cells = self.net.nodes[u], self.ring, self.scene.computed, self.scene.cells
        d, kind = list(self.adjoints[u]), node[0]
        if kind in ("lin", "mat", "matT"):
            m, r, c = self.sides(node)
            a = values[node[2]]
            for x in range(m):
                for i in range(r):
                    for y in range(c):
                        if kind == "lin":
                            self.to(node[2], x * r + i, ring.times(d[x * c + y], cells[node[1]][i][y]))
                            self.to_cell(node[1], i, y, ring.times(a[x * r + i], d[x * c + y]))
                        else:
                            at = i * c + y if kind == "mat" else y * r + i
                            self.to(node[2], x * r + i, ring.times(d[x * c + y], values[node[3]][at]))
                            self.to(node[3], at, ring.times(a[x * r + i], d[x * c + y]))
            return
        for j, amount in enumerate(d):
            self.spread(u, node, kind, j, amount)

    def spread(self, u, node, kind, j, amount):
        ring, values = self.ring, self.scene.computed
        zero = ring.zero()
        if kind == "bias":
            self.to(node[2], j, amount)
            self.to_cell(node[1], 0, j % self.net.parameters[node[1]].cols, amount)
        elif kind == "embed":
            cols = self.net.parameters[node[1]].cols
            self.to_cell(node[1], self.row(node[1], node[2] + j // cols), j % cols, amount)
        elif kind == "lower":
            self.to(node[2], j, amount if j % node[1] <= j // node[1] else zero)
        elif kind == "add":
            self.to(node[1], j, amount)
            self.to(node[2], j, amount)
        elif kind == "sub":
            self.to(node[1], j, amount)
            self.to(node[2], j, ring.minus(zero, amount))
        elif kind == "mul":
            self.to(node[1], j, ring.times(amount, values[node[2]][j]))
            self.to(node[2], j, ring.times(amount, values[node[1]][j]))
        elif kind == "scale":
            self.to(node[2], j, ring.times(ring.still(node[1]), amount))
        elif kind == "shift":
            self.to(node[2], j, ring.divided(amount, node[1]))
        elif kind == "relu":
            self.to(node[1], j, amount if ring.positive(values[node[1]][j]) else zero)
        elif kind == "drop":
            self.to(node[2], j, zero if self.dropped(u, j) else amount)
        elif kind == "sum":
            for at in range(len(values[node[1]])):
                self.to(node[1], at, amount)
        elif kind == "join":
            first = len(values[node[1]])
            self.to(node[1] if j < first else node[2], j if j < first else j - first, amount)
        elif kind == "take":
            self.to(node[3], node[1] + j, amount)


class SlowSample(Slow):
    """What is computed for a sample with words; parts has the adjoints as they are when the nodes from u on are done."""

    def __init__(self, job, cells, step, t):
        spot = step * job.batch + t
        scene = Scene(job.net, WordRing(), job.seed, cells, job.data[sample_at(job, spot)], spot)
        super().__init__(scene)
        for v in range(len(job.net.nodes)):
            scene.computed.append(self.value(v))
        start = [[0 for _ in value] for value in scene.computed]
        start[-1][0] = 1
        self.parts = {len(job.net.nodes): start}
        self.backward()

    def process(self, u):
        super().process(u)
        self.parts[u] = [list(one) for one in self.adjoints]


class SlowTruths:
    def __init__(self, job):
        self.job, self.net = job, job.net
        cells = beginnings(job.net, job.seed)
        self.states = [(cells, [[[0 for _ in row] for row in one] for one in cells])]
        self.samples = {}

    def state(self, n):
        while len(self.states) <= n:
            step = len(self.states) - 1
            self.states.append(slow_next(self.job, step, *self.states[step])[:2])
        return self.states[n]

    def sample(self, n, t):
        if (n, t) not in self.samples:
            self.samples[n, t] = SlowSample(self.job, self.state(n)[0], n, t)
        return self.samples[n, t]

    def word(self, name):
        kind, n = name[:2]
        if kind in ("par", "mom"):
            _, _, p, i, j = name
            return self.state(n)[("par", "mom").index(kind)][p][i][j]
        if kind == "los":
            return word(sum(self.sample(n, t).scene.computed[-1][0] for t in range(*name[2:])))
        if kind == "grd":
            _, _, p, i, j, lo, hi = name
            return word(sum(self.sample(n, t).gradients[p][i][j] for t in range(lo, hi)))
        one = self.sample(n, name[2])
        if kind == "val":
            return one.scene.computed[name[3]][name[4]]
        if kind == "inc":
            return one.parts[name[5]][name[3]][name[4]]
        return word(sum(self.products(one, name)[name[-2]:name[-1]]))

    def products(self, one, name):
        """All terms of the sum of which a pre or bac name is a part."""
        values = one.scene.computed
        node = self.net.nodes[name[3]]
        if node[0] == "sum":
            return values[node[1]]
        m, r, c = one.sides(node)
        left = [values[node[2]][x * r:x * r + r] for x in range(m)]
        d = [one.adjoints[name[3]][x * c:x * c + c] for x in range(m)]
        if node[0] == "lin":
            right = self.state(name[1])[0][node[1]]
        elif node[0] == "mat":
            right = [values[node[3]][i * c:i * c + c] for i in range(r)]
        else:
            right = [[values[node[3]][y * r + i] for y in range(c)] for i in range(r)]
        if name[0] == "pre":
            x, y = divmod(name[4], c)
            return [left[x][i] * right[i][y] for i in range(r)]
        if name[4] == 0:
            x, i = divmod(name[5], r)
            return [d[x][z] * right[i][z] for z in range(c)]
        i, y = divmod(name[5], c) if node[0] == "mat" else reversed(divmod(name[5], r))
        return [left[z][i] * d[z][y] for z in range(m)]

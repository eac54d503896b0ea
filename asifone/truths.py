"""The word of each name in the one process."""

from asifone.adds import amounts_of, backward
from asifone.nets import operands
from asifone.process import State, first_state, next_state, scene_of
from asifone.rings import WordRing
from asifone.terms import term_of
from asifone.values import forward
from asifone.words import total, wrap


class Sight:
    """What the one process computes for a sample; amounts has, for each node, what it adds to its operands."""

    def __init__(self, scene):
        self.computed = forward(scene)
        self.adjoints, self.gradients = backward(scene)
        self.amounts = [amounts_of(scene, u, d) for u, d in enumerate(self.adjoints)]


class Truths:
    """The words of a job in the one process; what has been computed is kept."""

    def __init__(self, job):
        self.job = job
        self._states = [first_state(job)]
        self._sights = {}

    def word(self, name):
        """The word of a name."""
        rule = RULES[name[0]]
        return rule(self, name)

    def state(self, step):
        """The state of a step."""
        state = self.kept_state(step)
        return State(_copied(state.cells), _copied(state.moments))

    def kept_state(self, step):
        """The same, but not to be changed."""
        # Without parameters nothing changes, however great the step is.
        if not self.job.net.parameters:
            return self._states[0]
        while len(self._states) <= step:
            earlier = len(self._states) - 1
            self._states.append(next_state(self.job, earlier, self._states[earlier]))
        return self._states[step]

    def sight(self, step, t):
        """What is computed for sample t of the batch of a step."""
        if (step, t) not in self._sights:
            cells = self.kept_state(step).cells
            self._sights[step, t] = Sight(scene_of(self.job, WordRing(), cells, step, t))
        return self._sights[step, t]


def truth(job, name):
    """The word of a name in the one process."""
    return Truths(job).word(name)


def _copied(cells):
    return [[list(row) for row in matrix] for matrix in cells]


# Each of the following functions tells the word of a name of one kind.


def _par(truths, name):
    _, n, p, i, j = name
    return truths.kept_state(n).cells[p][i][j]


def _mom(truths, name):
    _, n, p, i, j = name
    return truths.kept_state(n).moments[p][i][j]


def _val(truths, name):
    _, n, t, v, j = name
    return truths.sight(n, t).computed[v][j]


def _sum_of_terms(truths, name):
    products = []
    for at in range(name[-2], name[-1]):
        number = 1
        for factor in term_of(truths.job, name, at):
            number *= truths.word(factor)
        products.append(number)
    return total(products)


def _inc(truths, name):
    _, n, t, v, j, u = name
    nodes = truths.job.net.nodes
    amounts = truths.sight(n, t).amounts
    result = 1 if v == len(nodes) - 1 else 0
    for later in range(u, len(nodes)):
        for a, more in zip(operands(nodes[later]), amounts[later]):
            if a == v:
                result += more[j]
    return wrap(result)


def _grd(truths, name):
    _, n, p, i, j, lo, hi = name
    return total([truths.sight(n, t).gradients[p][i][j] for t in range(lo, hi)])


def _los(truths, name):
    _, n, lo, hi = name
    return total([truths.sight(n, t).computed[-1][0] for t in range(lo, hi)])


RULES = {
    "par": _par,
    "mom": _mom,
    "val": _val,
    "pre": _sum_of_terms,
    "inc": _inc,
    "bac": _sum_of_terms,
    "grd": _grd,
    "los": _los,
}

"""Goals, tasks, letters, drops and counts, computed slowly and word by word after [50] to [58]."""

from asifone.homes import ranks_in, way_in
from asifone.layouts import ranks_of
from asifone.names import place
from asifone.ways import premises

DIRECT = ("direct",)


def slow_needed(job, layout, goals, known):
    found = [name for name in goals if name not in known]
    for name in found:
        for premise in premises(job, name, way_in(job, layout, name)):
            if premise not in found and premise not in known and premise[0] not in ("par", "mom"):
                found.append(premise)
    return sorted(set(found), key=lambda one: place(job, one))


def slow_acts(job, layout, goals, known):
    names = slow_needed(job, layout, goals, known)
    acts = []
    for group in sorted({place(job, name)[1:3] for name in names}):
        members = [name for name in names if place(job, name)[1:3] == group]
        for rank in range(ranks_of(layout)):
            own = [(name, way_in(job, layout, name)) for name in members if rank in ranks_in(job, layout, name)]
            if own:
                acts.append((rank, ("make", tuple(own))))
    return acts


class SlowTasks:
    """The lists of [52] and [53]."""

    def __init__(self, job, layout):
        self.job, self.layout = job, layout
        batch, copies = job.batch, layout.copies
        self.blocks = [range(batch * k // copies, batch * (k + 1) // copies) for k in range(copies)]
        self.cells = [(p, i, j) for p, one in enumerate(job.net.parameters) for i in range(one.rows)
                      for j in range(one.cols)]

    def acts(self, goals, known):
        return slow_acts(self.job, self.layout, goals, known)

    def updates(self, rank, cell):
        return rank in ranks_in(self.job, self.layout, ("par", 0, *cell))

    def grd(self, n, lo, hi):
        return [("grd", n, *cell, lo, hi) for cell in self.cells]

    def state(self, n):
        acts = []
        for kind in ("mom", "par"):
            for rank in range(ranks_of(self.layout)):
                own = tuple(((kind, n, *cell), DIRECT) for cell in self.cells if self.updates(rank, cell))
                if own:
                    acts.append((rank, ("make", own)))
        return acts

    def step(self, n):
        acts, seen = [], {}
        for block in self.blocks:
            for t in block:
                known = [("los", n, block[0], t)] if block[0] < t else []
                seen[t] = slow_needed(self.job, self.layout, [("los", n, block[0], t + 1)], known)
                acts += self.acts([("los", n, block[0], t + 1)], known)
        acts += self.acts([("los", n, 0, self.job.batch)], [("los", n, block.start, block.stop) for block in self.blocks])
        stage = sum(first <= len(self.job.net.nodes) - 1 for first in self.layout.stages)
        acts.append((stage * self.layout.ways, ("tell", n)))
        for block in self.blocks:
            for t in block:
                known = self.grd(n, block[0], t) if block[0] < t else []
                known += [] if self.layout.redo else seen[t]
                acts += self.acts(self.grd(n, block[0], t + 1), known)
        known = [name for block in self.blocks for name in self.grd(n, block.start, block.stop)]
        acts += self.acts(self.grd(n, 0, self.job.batch), known)
        return acts + self.state(n + 1)

    def all(self, start, steps):
        acts = self.state(0) if start == 0 else self.store("load", start, self.updates)
        for n in range(start, start + steps):
            acts += self.step(n)
        return acts + self.store("save", start + steps, self.is_least)

    def is_least(self, rank, cell):
        return self.updates(rank, cell) and not any(self.updates(less, cell) for less in range(rank))

    def store(self, kind, n, rule):
        acts = []
        for rank in range(ranks_of(self.layout)):
            names = []
            for cell in self.cells:
                if rule(rank, cell):
                    names += [("par", n, *cell), ("mom", n, *cell)]
            if names:
                acts.append((rank, (kind, tuple(names))))
        return acts


def slow_needs(job, act):
    if act[0] in ("save", "send"):
        return list(act[-1])
    if act[0] == "tell":
        return [("los", act[1], 0, job.batch)]
    needs = []
    for at, (name, way) in enumerate(act[1] if act[0] == "make" else ()):
        needs += [one for one in premises(job, name, way) if one not in [entry[0] for entry in act[1][:at]]]
    return needs


def slow_gives(act):
    if act[0] == "make":
        return [entry[0] for entry in act[1]]
    return list(act[-1]) if act[0] in ("load", "recv") else []


def slow_wired(job, acts):
    held, result = {}, []
    for rank, act in acts:
        own = held.setdefault(rank, [])
        lacking = []
        for name in slow_needs(job, act):
            if name not in own and name not in lacking:
                lacking.append(name)
        source = {name: min([one for one in held if name in held[one]], default=None) for name in lacking}
        for one in sorted(held):
            names = tuple(name for name in lacking if source[name] == one)
            if names:
                result += [(one, ("send", rank, names)), (rank, ("recv", one, names))]
        result.append((rank, act))
        own += lacking + slow_gives(act)
    return result


def slow_is_live(job, later, rank, name):
    for other, act in later:
        if other == rank:
            if name in slow_needs(job, act):
                return True
            if name in slow_gives(act):
                return False
    return False


def slow_tidy(job, acts):
    held, result = {}, []
    for at, (rank, act) in enumerate(acts):
        own = held.setdefault(rank, [])
        own += slow_gives(act)
        result.append((rank, act))
        names = []
        for name in own:
            if name not in names and not slow_is_live(job, acts[at + 1:], rank, name):
                names.append(name)
        if names:
            result.append((rank, ("drop", tuple(names))))
            held[rank] = [name for name in own if name not in names]
    return result


def slow_rank_counts(acts, rank):
    own = [act for one, act in acts if one == rank]
    held, sizes = [], [0]
    for act in own:
        held = [name for name in held + slow_gives(act) if act[0] != "drop" or name not in act[1]]
        sizes.append(len(held))
    words = {kind: sum(len(act[-1]) for act in own if act[0] == kind) for kind in ("make", "send", "recv")}
    letters = sum(act[0] == "send" for act in own)
    return len(own), words["make"], letters, words["send"], words["recv"], max(sizes)

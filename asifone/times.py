"""How long plans take, and the best of several rows."""

from asifone.acts import names_of


def times(plan, *, make, word, file, delay):
    """The tuple (time, ranks) of a plan, where ranks is the list of the pairs (work, idle) of all ranks."""
    costs = {"load": file, "make": make, "send": word, "recv": word, "drop": 0, "save": file, "tell": 0}
    ends = {}
    work = {}
    arrivals = {}
    for rank, act in plan:
        start = ends.get(rank, 0)
        if act[0] == "recv":
            start = max(start, _arrival(arrivals, (act[1], rank, act[2])))
        cost = costs[act[0]] * len(names_of(act))
        ends[rank] = start + cost
        work[rank] = work.get(rank, 0) + cost
        if act[0] == "send":
            arrivals.setdefault((rank, act[1], act[2]), []).append(start + cost + delay)
    time = max(list(ends.values()), default=0)
    return time, [(work.get(rank, 0), time - work.get(rank, 0)) for rank in range(plan.ranks)]


def best(rows, memory):
    """The index of the best row for a memory, or None if no row fits."""
    fitting = [at for at, row in enumerate(rows) if row[3] <= memory]
    return min(fitting, key=lambda at: rows[at][4], default=None)


def _arrival(arrivals, letter):
    """When the first such letter on its way arrives, which is taken; 0 if there is none."""
    waiting = arrivals.get(letter, [])
    return waiting.pop(0) if waiting else 0

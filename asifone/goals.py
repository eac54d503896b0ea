"""What must be made for some goals, and the acts that make it."""

from asifone.homes import ranks_in, way_in
from asifone.names import place
from asifone.ways import premises


def needed(job, layout, goals, known):
    """The list of the needed names, in order."""
    settled = {name: True for name in known}
    found = {}
    waiting = list(goals)
    while waiting:
        name = waiting.pop()
        if name not in settled:
            settled[name] = True
            found[name] = True
            sources = premises(job, name, way_in(job, layout, name))
            waiting.extend([source for source in sources if source[0] not in ("par", "mom")])
    return sorted(found, key=lambda one: place(job, one))


def acts_for(job, layout, goals, known):
    """The list of the acts for the goals, pairs (rank, act)."""
    groups = {}
    for name in needed(job, layout, goals, known):
        _, phase, third, _ = place(job, name)
        groups.setdefault((phase, third), []).append(name)
    return [pair for key in sorted(groups) for pair in _acts_of_group(job, layout, groups[key])]


def _acts_of_group(job, layout, names):
    entries = {}
    for name in names:
        entry = (name, way_in(job, layout, name))
        for rank in ranks_in(job, layout, name):
            entries.setdefault(rank, []).append(entry)
    return [(rank, ("make", tuple(entries[rank]))) for rank in sorted(entries)]

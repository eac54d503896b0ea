"""Derivations: names with all names of which they are made."""

from asifone.names import place
from asifone.ways import farthest_skip, is_used, premises


def plain_way(job, name):
    """The way by which a name is made in a derivation."""
    if name[0] == "inc":
        _, _, _, v, _, u = name
        if u < len(job.net.nodes) and not is_used(job.net, v, u):
            return ("skip", farthest_skip(job, name))
    return ("direct",)


def derivation(job, name, limit):
    """The list of the pairs (name, way) of the derivation of a name, in order, or None if it has too many names."""
    ways = {name: plain_way(job, name)}
    waiting = [name]
    while waiting:
        current = waiting.pop()
        for premise in premises(job, current, ways[current]):
            if premise not in ways:
                ways[premise] = plain_way(job, premise)
                waiting.append(premise)
        if len(ways) > limit:
            return None
    in_order = sorted(ways, key=lambda one: place(job, one))
    return [(one, ways[one]) for one in in_order]

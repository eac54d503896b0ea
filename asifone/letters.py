"""What acts need and give, and the letters that bring each rank what it lacks."""

from asifone.acts import names_of, without_repeats
from asifone.ways import premises


def needs_of(job, act):
    """The list of the names that an act needs."""
    if act[0] == "make":
        return _needs_of_entries(job, act[1])
    if act[0] in ("save", "send"):
        return names_of(act)
    return [("los", act[1], 0, job.batch)] if act[0] == "tell" else []


def gives_of(act):
    """The list of the names that an act gives."""
    return names_of(act) if act[0] in ("load", "make", "recv") else []


def wired(job, acts):
    """The wired form of a list of pairs (rank, act)."""
    held = {}
    # Nothing is dropped, so that the least rank that holds a name can only become less.
    least = {}
    result = []
    for rank, act in acts:
        lacking = [name for name in without_repeats(needs_of(job, act)) if (rank, name) not in held]
        result.extend(_letters_to(rank, lacking, least))
        result.append((rank, act))
        for name in lacking + gives_of(act):
            held[rank, name] = True
            least[name] = min(rank, least.get(name, rank))
    return result


def _needs_of_entries(job, entries):
    given = {}
    result = []
    for name, way in entries:
        result.extend([one for one in premises(job, name, way) if one not in given])
        given[name] = True
    return result


def _letters_to(rank, lacking, least):
    """The sending and the taking of the lacking names that somebody holds."""
    names_from = {}
    for name in lacking:
        if name in least:
            names_from.setdefault(least[name], []).append(name)
    result = []
    for source in sorted(names_from):
        names = tuple(names_from[source])
        result.append((source, ("send", rank, names)))
        result.append((rank, ("recv", source, names)))
    return result

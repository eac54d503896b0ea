"""Dropping what a rank does not need any more."""

from asifone.acts import without_repeats
from asifone.letters import gives_of, needs_of


def tidy(job, acts):
    """The tidy form of a list of pairs (rank, act) without drops."""
    # For each rank, the dict from the names that it holds to numbers that ascend in the order in which they are held.
    held = {}
    given = 0
    result = []
    for (rank, act), ending in zip(acts, _endings(job, acts)):
        own = held.setdefault(rank, {})
        for name in gives_of(act):
            own.setdefault(name, given)
            given += 1
        result.append((rank, act))
        in_order = sorted([(own[one], one) for one in ending if one in own])
        gone = [one for _, one in in_order]
        if gone:
            result.append((rank, ("drop", tuple(gone))))
        for name in gone:
            del own[name]
    return result


def _endings(job, acts):
    """For each act, the names that it needs or gives and that are not live after it.

    A name that was live before an act and that the act neither needs nor gives stays live.
    """
    live = {}
    result = []
    for rank, act in reversed(acts):
        own = live.setdefault(rank, {})
        needs, gives = needs_of(job, act), gives_of(act)
        result.append([name for name in without_repeats(needs + gives) if name not in own])
        for name in gives:
            own.pop(name, None)
        for name in needs:
            own[name] = True
    result.reverse()
    return result

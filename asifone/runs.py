"""Which events a run consists of."""

from asifone.reasons import reason_against
from asifone.words import mixed, unsigned


def next_event(now, layouts, steps, seed, i):
    """The event number i of a run in this situation, or None if the run ends."""
    number = unsigned(mixed(seed, [5, i]))
    for event in _choices(now, layouts, steps, number & 15, number >> 4):
        if reason_against(now, event) is None:
            return event
    return None


def _choices(now, layouts, steps, kind, a):
    """The events of which the first one that can happen is taken."""
    many = len(now.workers)
    return (
        _disturbances(now, kind, a)
        + [("go", rank) for rank in _around(len(now.plan), a)]
        + [("commit", now.base + steps)]
        + [("up", rank) for rank in range(many)]
        + [("start", layouts[at], steps) for at in _around(len(layouts), a)]
    )


def _disturbances(now, kind, a):
    rank = a % (len(now.workers) + 1)
    letter = a % (len(now.mail) + 1)
    events = (
        ("double", letter),
        ("crash", rank),
        ("tear", rank, (a >> 3) & 63),
        ("sweep", a % (len(now.shelf) + 1)),
        ("lose", letter),
    )
    return list(events[kind:kind + 1])


def _around(many, a):
    """The numbers below this one, from a modulo this one on, and then from 0."""
    return [(a + k) % many for k in range(many)]

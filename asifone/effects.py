"""What events do to the situation of a fleet."""

from asifone.acts import names_of
from asifone.situations import file_to_save, next_act_of
from asifone.working import do_act


def take_effect(now, event):
    """Does an event that can happen, and returns what its method of the fleet returns."""
    rule = RULES[event[0]]
    details = event[1:]
    return rule(now, *details)


def _go(now, rank):
    act = next_act_of(now, rank)
    do_act(now, rank, act)
    now.workers[rank].done += 1
    kind = act[0]
    return kind, 1 if kind == "tell" else len(names_of(act)), act[1] if kind in ("send", "recv", "tell") else None


def _double(now, letter):
    now.mail.append(now.mail[letter])


def _lose(now, letter):
    del now.mail[letter]


def _crash(now, rank):
    now.workers[rank].up = False
    now.workers[rank].begin(0)


def _tear(now, rank, size):
    data = file_to_save(now, rank, next_act_of(now, rank))
    now.shelve(data[:size])
    _crash(now, rank)


def _up(now, rank):
    # A rank that is down works in no generation and holds nothing already.
    now.workers[rank].up = True


def _start(now, layout, steps):
    now.generation += 1
    now.base = now.committed[0]
    now.plan = now.planner.acts_by_rank(layout, now.base, steps)
    for rank, worker in enumerate(now.workers):
        worker.begin(now.generation if rank < len(now.plan) else 0)
    return now.generation


def _commit(now, step):
    now.committed.insert(0, step)


def _sweep(now, place):
    del now.shelf[place]


RULES = {
    "go": _go,
    "double": _double,
    "lose": _lose,
    "crash": _crash,
    "tear": _tear,
    "up": _up,
    "start": _start,
    "commit": _commit,
    "sweep": _sweep,
}

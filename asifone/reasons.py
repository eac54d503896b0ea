"""Why events of a fleet cannot happen."""

from asifone.layouts import fits, ranks_of
from asifone.situations import file_to_save, is_at_work, letter_for, next_act_of, tables_of
from asifone.store import has_state


def reason_against(now, event):
    """The reason why an event cannot happen, or None if it can."""
    rule = RULES[event[0]]
    details = event[1:]
    return rule(now, *details)


def _go(now, rank):
    reason = _crash(now, rank)
    if reason is not None:
        return reason
    if not is_at_work(now, rank):
        return "rank is not at work"
    act = next_act_of(now, rank)
    if act is None:
        return "rank has done its acts"
    if act[0] == "recv" and letter_for(now, rank, act) is None:
        return "letter is not there"
    return None


def _double(now, letter):
    return None if 0 <= letter < len(now.mail) else "no such letter"


def _lose(now, letter):
    if not 0 <= letter < len(now.mail):
        return "no such letter"
    return "letter is of this generation" if now.mail[letter][0] == now.generation else None


def _crash(now, rank):
    if not 0 <= rank < len(now.workers):
        return "no such rank"
    return None if now.workers[rank].up else "rank is down"


def _tear(now, rank, size):
    if not 0 <= rank < len(now.workers):
        return "no such rank"
    act = next_act_of(now, rank)
    if act is None or act[0] != "save":
        return "rank is not saving"
    return None if size < len(file_to_save(now, rank, act)) else "file would be whole"


def _up(now, rank):
    if not 0 <= rank < len(now.workers):
        return "no such rank"
    return "rank is up" if now.workers[rank].up else None


def _start(now, layout, steps):
    if steps < 1 or not fits(now.job, layout):
        return "no such layout"
    many = ranks_of(layout)
    if many > len(now.workers):
        return "too few ranks"
    return None if all([worker.up for worker in now.workers[:many]]) else "rank is down"


def _commit(now, step):
    if step <= now.committed[0]:
        return "step is not later"
    return None if has_state(now.job, tables_of(now), step) else "state is not stored"


def _sweep(now, place):
    if not 0 <= place < len(now.shelf):
        return "no such file"
    oldest = min(now.committed[0], now.base)
    return "file is needed" if any([name[1] >= oldest for name in now.shelf[place][1]]) else None


RULES = {
    "go": _go,
    "double": _double,
    "lose": _lose,
    "crash": _crash,
    "tear": _tear,
    "up": _up,
    "start": _start,
    "commit": _commit,
    "sweep": _sweep,
}

"""What the acts of ranks do to the situation of a fleet."""

from asifone.making import made
from asifone.situations import facts_held, file_to_save, letter_for, tables_of
from asifone.store import word_in
from asifone.ways import premises


def do_act(now, rank, act):
    """The rank does an act that can be done."""
    rule = RULES[act[0]]
    rule(now, rank, act)


def _load(now, rank, act):
    tables = tables_of(now)
    for name in act[1]:
        now.workers[rank].held[name] = word_in(tables, name)


def _make(now, rank, act):
    held = now.workers[rank].held
    for name, way in act[1]:
        words = [held[premise] for premise in premises(now.job, name, way)]
        held[name] = made(now.job, name, way, words)


def _send(now, rank, act):
    _, to, names = act
    now.mail.append((now.generation, rank, to, tuple(facts_held(now, rank, names))))


def _recv(now, rank, act):
    _, _, _, facts = now.mail.pop(letter_for(now, rank, act))
    for name, word in facts:
        now.workers[rank].held[name] = word


def _drop(now, rank, act):
    for name in act[1]:
        del now.workers[rank].held[name]


def _save(now, rank, act):
    now.shelve(file_to_save(now, rank, act))


def _tell(now, rank, act):
    step = act[1]
    now.losses.append((step, now.workers[rank].held["los", step, 0, now.job.batch]))


RULES = {
    "load": _load,
    "make": _make,
    "send": _send,
    "recv": _recv,
    "drop": _drop,
    "save": _save,
    "tell": _tell,
}

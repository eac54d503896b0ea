"""A fleet after [70] to [75], done slowly: plain lists, every file is read again whenever it is asked."""

import copy

from asifone.errors import FileError
from asifone.files import file_of
from asifone.layouts import fits, ranks_of
from asifone.making import made
from asifone.nets import beginnings
from asifone.plans import plan_of
from asifone.shards import facts_of
from asifone.ways import premises
from asifone.words import mixed, unsigned


class SlowFleet:
    def __init__(self, job, ranks):
        self.job = job
        self.up = [True] * ranks
        self.generation = [0] * ranks
        self.done = [0] * ranks
        self.held = [[] for _ in range(ranks)]
        self.letters, self.files, self.losses, self.commits = [], [], [], [0]
        self.present, self.plan, self.ranks, self.base = 0, [], 0, 0
        self.kept = []

    def snapshot(self):
        return {key: list(map(copy.copy, one)) if isinstance(one, list) else one
                for key, one in vars(self).items() if key not in ("kept", "job")}

    def at_work(self, rank):
        return self.up[rank] and self.generation[rank] == self.present and rank < self.ranks

    def acts(self, rank):
        return [act for one, act in self.plan if one == rank]

    def next_act(self, rank):
        if not 0 <= rank < len(self.up) or not self.at_work(rank):
            return None
        return (self.acts(rank)[self.done[rank]:] or [None])[0]

    def word(self, rank, name):
        return [word for one, word in self.held[rank] if one == name][0]

    def readable(self, data):
        try:
            return facts_of(data)
        except FileError:
            return []

    def stored(self):
        words = {}
        for data in self.files:
            for name, word in self.readable(data):
                words.setdefault(name, word)
        return words

    def state_names(self, step):
        return [(kind, step, p, i, j) for p, one in enumerate(self.job.net.parameters) for i in range(one.rows)
                for j in range(one.cols) for kind in ("par", "mom")]

    def state(self, step):
        cells = beginnings(self.job.net, self.job.seed)
        moments = [[[0 for _ in row] for row in one] for one in cells]
        if step > 0:
            words = self.stored()
            for kind, _, p, i, j in self.state_names(step):
                if (kind, step, p, i, j) not in words:
                    return None
                (cells if kind == "par" else moments)[p][i][j] = words[kind, step, p, i, j]
        return cells, moments

    def reasons(self, event):
        """All reasons why an event cannot happen, in order."""
        kind, rest = event[0], event[1:]
        known = kind in ("go", "crash", "tear", "up") and 0 <= rest[0] < len(self.up)
        if kind in ("go", "crash", "tear", "up") and not known:
            yield "no such rank"
        if kind in ("double", "lose") and not 0 <= rest[0] < len(self.letters):
            yield "no such letter"
        elif kind == "lose" and self.letters[rest[0]][0] == self.present:
            yield "letter is of this generation"
        if known and kind in ("go", "crash") and not self.up[rest[0]]:
            yield "rank is down"
        if known and kind == "up" and self.up[rest[0]]:
            yield "rank is up"
        if known and kind == "go":
            yield from self.reasons_of_go(rest[0])
        if known and kind == "tear":
            act = self.next_act(rest[0])
            if act is None or act[0] != "save":
                yield "rank is not saving"
            elif len(self.file(*rest[:1], act)) <= rest[1]:
                yield "file would be whole"
        if kind in ("start", "commit", "sweep"):
            yield from getattr(self, f"reasons_of_{kind}")(*rest)

    def reasons_of_go(self, rank):
        if not self.at_work(rank):
            yield "rank is not at work"
        elif self.next_act(rank) is None:
            yield "rank has done its acts"
        elif self.next_act(rank)[0] == "recv" and not self.fitting(rank):
            yield "letter is not there"

    def reasons_of_start(self, layout, steps):
        if steps < 1 or not fits(self.job, layout):
            yield "no such layout"
        if ranks_of(layout) > len(self.up):
            yield "too few ranks"
        if not all(self.up[:ranks_of(layout)]):
            yield "rank is down"

    def reasons_of_commit(self, step):
        if self.commits[0] >= step:
            yield "step is not later"
        if any(name not in self.stored() for name in self.state_names(step)):
            yield "state is not stored"

    def reasons_of_sweep(self, place):
        if not 0 <= place < len(self.files):
            yield "no such file"
        else:
            steps = [name[1] for name, _ in self.readable(self.files[place])]
            if any(step >= self.commits[0] or step >= self.base for step in steps):
                yield "file is needed"

    def reason(self, event):
        return next(self.reasons(event), None)

    def fitting(self, rank):
        _, source, names = self.next_act(rank)
        return [at for at, letter in enumerate(self.letters)
                if letter[:3] == (self.present, source, rank) and tuple(name for name, _ in letter[3]) == names]

    def file(self, rank, act):
        return file_of([(name, self.word(rank, name)) for name in act[1]])

    def happen(self, event):
        outcome = getattr(self, f"event_{event[0]}")(*event[1:])
        return outcome

    def event_go(self, rank):
        act = self.next_act(rank)
        kind, rest = act[0], act[-1]
        if kind == "load":
            self.held[rank] += [(name, self.stored()[name]) for name in rest]
        elif kind == "make":
            for name, way in rest:
                words = [self.word(rank, one) for one in premises(self.job, name, way)]
                self.held[rank].append((name, made(self.job, name, way, words)))
        elif kind == "send":
            self.letters.append((self.present, rank, act[1], [(name, self.word(rank, name)) for name in rest]))
        elif kind == "recv":
            self.held[rank] += self.letters.pop(self.fitting(rank)[0])[3]
        elif kind == "drop":
            self.held[rank] = [fact for fact in self.held[rank] if fact[0] not in rest]
        elif kind == "save":
            self.files.append(self.file(rank, act))
        else:
            self.losses.append((rest, self.word(rank, ("los", rest, 0, self.job.batch))))
        self.done[rank] += 1
        if kind == "tell":
            return "tell", 1, rest
        return kind, len(rest), act[1] if kind in ("send", "recv") else None

    def event_double(self, letter):
        self.letters.append(self.letters[letter])

    def event_lose(self, letter):
        self.letters.pop(letter)

    def event_crash(self, rank):
        self.up[rank], self.generation[rank], self.held[rank] = False, 0, []

    def event_tear(self, rank, size):
        self.files.append(self.file(rank, self.next_act(rank))[:size])
        self.event_crash(rank)

    def event_up(self, rank):
        self.up[rank], self.generation[rank], self.held[rank] = True, 0, []

    def event_start(self, layout, steps):
        self.present += 1
        self.base, self.ranks = self.commits[0], ranks_of(layout)
        self.plan = list(plan_of(self.job, layout, self.base, steps))
        for rank in range(len(self.up)):
            self.generation[rank] = self.present if rank < self.ranks else 0
            self.done[rank], self.held[rank] = 0, []
        return self.present

    def event_commit(self, step):
        self.commits = [step] + self.commits

    def event_sweep(self, place):
        del self.files[place]

    def try_event(self, event):
        """The pair of the reason, or None, and of what the method returns."""
        reason = self.reason(event)
        if reason is not None:
            return reason, None
        before = self.snapshot()
        outcome = self.happen(event)
        self.kept = (self.kept + [before])[-16:]
        return None, outcome

    def undo(self):
        if not self.kept:
            return False
        vars(self).update(self.kept.pop())
        return True

    def choices(self, layouts, steps, seed, i):
        w = unsigned(mixed(seed, [5, i]))
        a = w // 16
        ranks = len(self.up) + 1
        yield from {
            0: [("double", a % (len(self.letters) + 1))], 1: [("crash", a % ranks)],
            2: [("tear", a % ranks, a // 8 % 64)], 3: [("sweep", a % (len(self.files) + 1))],
            4: [("lose", a % (len(self.letters) + 1))],
        }.get(w % 16, [])
        numbers = list(range(self.ranks))
        if numbers:
            for rank in numbers[a % self.ranks:] + numbers[:a % self.ranks]:
                yield ("go", rank)
        yield ("commit", self.base + steps)
        for rank in range(len(self.up)):
            yield ("up", rank)
        first = a % len(layouts)
        for layout in layouts[first:] + layouts[:first]:
            yield ("start", layout, steps)

    def drive(self, layouts, steps, seed, count):
        before, events = self.snapshot(), []
        for i in range(count):
            choices = self.choices(layouts, steps, seed, i)
            event = next((event for event in choices if self.reason(event) is None), None)
            if event is None:
                break
            self.happen(event)
            events.append(event)
        self.kept = (self.kept + [before])[-16:]
        return events

    def told(self):
        """All that can be asked of a fleet."""
        rows, ready, remaining = [], [], 0
        for rank in range(len(self.up)):
            work = self.at_work(rank)
            left = len(self.acts(rank)) - self.done[rank] if work else 0
            rows.append((self.up[rank], self.present if work else 0, self.done[rank] if work else 0, left,
                         len(self.held[rank])))
            if self.reason(("go", rank)) is None:
                ready.append(rank)
            if rank < self.ranks:
                remaining += left if work else len(self.acts(rank))
        return {
            "present": self.present, "ranks": rows, "ready": ready, "remaining": remaining,
            "held": [list(facts) for facts in self.held], "letters": list(self.letters), "files": list(self.files),
            "commits": list(self.commits), "told": list(self.losses),
            "next": [self.next_act(rank) for rank in range(len(self.up))],
        }


def all_of(fleet):
    """The same of a Fleet."""
    ranks = range(len(fleet.ranks()))
    return {
        "present": fleet.present, "ranks": fleet.ranks(), "ready": fleet.ready(), "remaining": fleet.remaining(),
        "held": [fleet.held_by(rank) for rank in ranks], "letters": fleet.letters(), "files": fleet.files(),
        "commits": fleet.commits(), "told": fleet.told(), "next": [fleet.next_act(rank) for rank in ranks],
    }

import unittest

from asifone.derivations import derivation
from asifone.layouts import Layout
from asifone.letters import gives_of, needs_of, wired
from asifone.tasks import tasks
from asifone.texts import job_of
from asifone.ways import premises, ways_of
from tests.slow_plans import slow_gives, slow_needs, slow_wired
from tests.support import EXAMPLE, LETTERS, WHOLE, rng_of, small_job, some_layout, some_name, told

JOB = job_of(LETTERS)
BIG = job_of(WHOLE)
A, B, C, D = [("val", 0, 0, v, 0) for v in range(4)]
DIRECT = ("direct",)


def make(*names):
    return ("make", tuple((name, DIRECT) for name in names))


def send(to, *names):
    return ("send", to, names)


def recv(source, *names):
    return ("recv", source, names)


def some_acts(rng, job, many):
    """A list of acts of few ranks over few names, in which nobody needs to hold what is needed."""
    pool = [name for name, _ in derivation(job, ("los", 0, 0, job.batch), 10 ** 6)]
    pool = pool[-12:] + [some_name(rng, job, (0, 1)) for _ in range(6)]
    acts = []
    for _ in range(many):
        names = tuple(rng.choice(pool) for _ in range(rng.randrange(5)))
        act = rng.choice([
            ("make", tuple((name, rng.choice(ways_of(job, name))) for name in names)), ("load", names),
            ("make", tuple((name, rng.choice(ways_of(job, name))) for name in names)), ("save", names),
            ("send", rng.randrange(3), names), ("recv", rng.randrange(3), names), ("tell", 0),
        ])
        acts.append((rng.randrange(3), act))
    return acts


class NeedsTest(unittest.TestCase):
    def check(self, act, needs, gives):
        self.assertEqual(needs_of(JOB, act), needs, act)
        self.assertEqual(gives_of(act), gives, act)

    def test_acts_without_entries(self):
        for kind, needs, gives in (("load", [], [A, B, A]), ("save", [A, B, A], []), ("drop", [], [])):
            self.check((kind, (A, B, A)), needs, gives)
            self.check((kind, ()), [], [])
        self.check(send(1, A, B), [A, B], [])
        self.check(recv(1, A, B), [], [A, B])
        self.check(("tell", 7), [("los", 7, 0, 1)], [])
        self.assertEqual(needs_of(BIG, ("tell", 7)), [("los", 7, 0, 3)])

    def test_makes(self):
        self.check(make(A), [], [A])
        self.check(make(C), [A, B], [C])
        self.check(make(D), [B, C], [D])
        self.check(make(C, C), [A, B, A, B], [C, C])
        self.check(make(), [], [])

    def test_what_an_earlier_entry_makes(self):
        self.check(make(C, D), [A, B, B], [C, D])
        self.check(make(D, C), [B, C, A, B], [D, C])
        self.check(make(A, C, B, D), [B], [A, C, B, D])
        los = ("los", 0, 0, 1)
        # A name that is among its own premises is not made before it is needed.
        self.check(("make", ((los, ("join", 0)),)), [("los", 0, 0, 0), los], [los])
        self.check(("make", ((los, DIRECT), (los, ("join", 1)))), [D, ("los", 0, 1, 1)], [los, los])

    def test_names_that_are_needed_twice(self):
        job = job_of("input 1\ntarget 1\na = input\nloss a * a\nsample 2 | 3")
        self.assertEqual(needs_of(job, make(("val", 0, 0, 1, 0))), [A, A])
        self.assertEqual(needs_of(job, make(("inc", 0, 0, 0, 0, 1))), [("inc", 0, 0, 1, 0, 2), A, A,
                                                                      ("inc", 0, 0, 0, 0, 2)])

    def test_ways(self):
        name = ("grd", 3, 0, 1, 2, 0, 3)
        first, last = name[:-2] + (0, 2), name[:-2] + (2, 3)
        self.assertEqual(needs_of(BIG, ("make", ((name, ("join", 2)),))), [first, last])
        inc = ("inc", 3, 0, 0, 0, 20)
        self.assertEqual(needs_of(BIG, ("make", ((inc, ("skip", 24)),))), [inc[:-1] + (24,)])
        self.assertEqual(needs_of(BIG, ("make", ((name, DIRECT),))), premises(BIG, name, DIRECT))

    def test_random_acts(self):
        for seed in range(60):
            rng = rng_of(seed)
            job = small_job(rng)
            for _, act in some_acts(rng, job, 20):
                self.assertEqual(needs_of(job, act), slow_needs(job, act))
                self.assertEqual(gives_of(act), slow_gives(act))


class WiredTest(unittest.TestCase):
    def test_the_example(self):
        acts = [(0, make(A, B)), (1, make(C)), (0, make(D))]
        self.assertEqual(wired(JOB, acts), [
            (0, make(A, B)), (0, send(1, A, B)), (1, recv(0, A, B)), (1, make(C)), (1, send(0, C)), (0, recv(1, C)),
            (0, make(D)),
        ])
        self.assertEqual(acts, [(0, make(A, B)), (1, make(C)), (0, make(D))])

    def test_nothing_is_lacking(self):
        for acts in ([], [(2, make(A, B)), (2, make(C)), (2, ("save", (A, C)))], [(0, make(A, B, C, D))]):
            self.assertEqual(wired(JOB, acts), acts)

    def test_the_least_rank_is_the_source(self):
        acts = [(2, make(A)), (1, make(A)), (3, ("save", (A,))), (0, make(A)), (4, ("save", (A,)))]
        self.assertEqual(wired(JOB, acts), acts[:2] + [
            (1, send(3, A)), (3, recv(1, A)), (3, ("save", (A,))), (0, make(A)), (0, send(4, A)), (4, recv(0, A)),
            (4, ("save", (A,))),
        ])

    def test_a_letter_makes_a_holder(self):
        acts = [(3, make(A)), (1, ("save", (A,))), (2, ("save", (A,))), (2, ("save", (A,)))]
        self.assertEqual(wired(JOB, acts), [
            (3, make(A)), (3, send(1, A)), (1, recv(3, A)), acts[1], (1, send(2, A)), (2, recv(1, A)), acts[2], acts[3],
        ])

    def test_several_sources(self):
        # Letters go by ranks, the names in each by their places among the needs, each once.
        acts = [(3, make(A)), (1, ("load", (B, C))), (0, ("save", (C, A, B, C, A)))]
        self.assertEqual(wired(JOB, acts), acts[:2] + [
            (1, send(0, C, B)), (0, recv(1, C, B)), (3, send(0, A)), (0, recv(3, A)), acts[2],
        ])

    def test_names_that_nobody_holds(self):
        acts = [(0, make(C)), (1, ("save", (A, D))), (2, ("save", (D,)))]
        # They are lacking without a source; from then on the rank that did the task holds them.
        self.assertEqual(wired(JOB, acts), [
            acts[0], (0, send(1, A)), (1, recv(0, A)), acts[1], (1, send(2, D)), (2, recv(1, D)), acts[2],
        ])

    def test_nothing_is_dropped(self):
        acts = [(0, make(A)), (0, ("drop", (A,))), (1, ("save", (A,)))]
        self.assertEqual(wired(JOB, acts), acts[:2] + [(0, send(1, A)), (1, recv(0, A)), acts[2]])

    def test_tells(self):
        los = ("los", 3, 0, 1)
        self.assertEqual(wired(JOB, [(1, ("load", (los,))), (0, ("tell", 3)), (1, ("tell", 3))]), [
            (1, ("load", (los,))), (1, send(0, los)), (0, recv(1, los)), (0, ("tell", 3)), (1, ("tell", 3)),
        ])

    def test_random_acts(self):
        for seed in range(60):
            rng = rng_of(seed)
            job = small_job(rng)
            acts = some_acts(rng, job, rng.choice([3, 12, 30]))
            before = repr((told(job), acts))
            self.assertEqual(wired(job, acts), slow_wired(job, acts), acts)
            self.assertEqual(repr((told(job), acts)), before)

    def test_random_tasks(self):
        for seed in range(12):
            rng = rng_of(seed)
            job = small_job(rng, 25, 6)
            acts = tasks(job, some_layout(rng, job), rng.choice([0, 3]), 1)
            self.assertEqual(wired(job, acts), slow_wired(job, acts))

    def test_answers_are_new(self):
        acts = [(0, make(A))]
        wired(JOB, acts).clear()
        needs_of(JOB, make(C)).clear()
        gives_of(recv(0, A)).clear()
        self.assertEqual(wired(JOB, acts), [(0, make(A))])
        self.assertEqual(needs_of(JOB, make(C)), [A, B])
        self.assertEqual(gives_of(recv(0, A)), [A])

    def test_layouts_of_one_rank_need_no_letters(self):
        job = job_of(EXAMPLE)
        acts = tasks(job, Layout(1, [], 1, [True] * 9, True, False), 0, 2)
        self.assertEqual(wired(job, acts), acts)

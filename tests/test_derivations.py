import unittest

from asifone.derivations import derivation, plain_way
from asifone.making import made
from asifone.names import place
from asifone.texts import job_of
from asifone.truths import Truths
from asifone.ways import is_way, premises, ways_of
from tests.support import WHOLE, live_job, rng_of, some_name, told

JOB = job_of(WHOLE)
SMALL = job_of("input 1\ntarget 1\nparam w 1 1 same 4\nn0 = input\nn1 = n0 @ w\nn2 = target\nn3 = n1 - n2\n"
               "loss n3 * n3\nrate 0 1\nsample 7 | 2")
DIRECT = ("direct",)


class PlainWayTest(unittest.TestCase):
    def test_directly(self):
        for name in (("par", 2, 0, 0, 0), ("mom", 2, 0, 0, 0), ("val", 2, 1, 4, 0), ("pre", 2, 1, 20, 0, 0, 9),
                     ("bac", 2, 1, 4, 1, 0, 0, 3), ("grd", 2, 0, 0, 0, 0, 3), ("los", 2, 0, 3)):
            self.assertEqual(plain_way(JOB, name), DIRECT)

    def test_inc(self):
        # Node 2 is an operand of 4 and 5, node 6 of 7 and 13, node 23 of none.
        ways = [plain_way(JOB, ("inc", 2, 1, 2, 0, u)) for u in range(3, 25)]
        self.assertEqual(ways, [("skip", 4), DIRECT, DIRECT] + [("skip", 24)] * 18 + [DIRECT])
        ways = [plain_way(JOB, ("inc", 2, 1, 6, 0, u)) for u in range(7, 15)]
        self.assertEqual(ways, [DIRECT] + [("skip", 13)] * 5 + [DIRECT, ("skip", 24)])
        self.assertEqual(plain_way(JOB, ("inc", 2, 1, 23, 0, 24)), DIRECT)
        self.assertEqual(plain_way(JOB, ("inc", 2, 1, 22, 0, 23)), DIRECT)

    def test_it_is_a_listed_way(self):
        for seed in range(40):
            rng = rng_of(seed)
            job = live_job(rng)
            for _ in range(40):
                name = some_name(rng, job)
                self.assertIn(plain_way(job, name), ways_of(job, name))


class DerivationTest(unittest.TestCase):
    def test_small_ones(self):
        self.assertEqual(derivation(SMALL, ("par", 0, 0, 0, 0), 9), [(("par", 0, 0, 0, 0), DIRECT)])
        self.assertEqual(derivation(SMALL, ("los", 0, 0, 0), 9), [(("los", 0, 0, 0), DIRECT)])
        self.assertEqual(derivation(SMALL, ("val", 5, 0, 0, 0), 9), [(("val", 5, 0, 0, 0), DIRECT)])

    def test_a_step(self):
        wanted = [
            (("mom", 0, 0, 0, 0), DIRECT), (("par", 0, 0, 0, 0), DIRECT), (("val", 0, 0, 0, 0), DIRECT),
            (("pre", 0, 0, 1, 0, 0, 1), DIRECT), (("val", 0, 0, 1, 0), DIRECT), (("val", 0, 0, 2, 0), DIRECT),
            (("val", 0, 0, 3, 0), DIRECT), (("inc", 0, 0, 4, 0, 5), DIRECT), (("inc", 0, 0, 3, 0, 5), DIRECT),
            (("inc", 0, 0, 3, 0, 4), DIRECT), (("inc", 0, 0, 1, 0, 5), DIRECT), (("inc", 0, 0, 1, 0, 4), ("skip", 5)),
            (("inc", 0, 0, 1, 0, 3), DIRECT), (("inc", 0, 0, 1, 0, 2), ("skip", 3)), (("grd", 0, 0, 0, 0, 0, 1), DIRECT),
            (("mom", 1, 0, 0, 0), DIRECT), (("par", 1, 0, 0, 0), DIRECT),
        ]
        self.assertEqual(derivation(SMALL, ("par", 1, 0, 0, 0), 1000), wanted)
        self.assertEqual(derivation(SMALL, ("mom", 1, 0, 0, 0), 1000),
                         [one for one in wanted[:-1]])

    def test_limits(self):
        name = ("par", 1, 0, 0, 0)
        self.assertEqual(len(derivation(SMALL, name, 17)), 17)
        self.assertIsNone(derivation(SMALL, name, 16))
        self.assertIsNone(derivation(SMALL, name, 1))
        self.assertEqual(len(derivation(SMALL, ("par", 0, 0, 0, 0), 1)), 1)
        self.assertIsNone(derivation(SMALL, ("los", 0, 0, 1), 1))
        for seed in range(30):
            rng = rng_of(seed)
            job = live_job(rng)
            name = some_name(rng, job, (0, 1))
            whole = derivation(job, name, 10 ** 6)
            self.assertEqual(derivation(job, name, len(whole)), whole)
            if len(whole) > 1:
                self.assertIsNone(derivation(job, name, len(whole) - 1))

    def test_great_steps_end_at_the_limit(self):
        self.assertIsNone(derivation(SMALL, ("par", 10 ** 30, 0, 0, 0), 1000))
        self.assertIsNone(derivation(JOB, ("los", 10 ** 30, 0, 3), 100))

    def test_all_premises_and_no_more(self):
        for seed in range(40):
            rng = rng_of(seed)
            job = live_job(rng)
            name = some_name(rng, job, (0, 1))
            rows = derivation(job, name, 10 ** 6)
            places = [place(job, one) for one, _ in rows]
            self.assertEqual(places, sorted(places))
            ways = dict(rows)
            self.assertEqual(len(ways), len(rows))
            needed, waiting = {name}, [name]
            while waiting:
                one = waiting.pop()
                for premise in premises(job, one, ways[one]):
                    if premise not in needed:
                        needed.add(premise)
                        waiting.append(premise)
            self.assertEqual(needed, set(ways))
            for one, way in rows:
                self.assertEqual(way, plain_way(job, one))
                self.assertTrue(is_way(job, one, way))

    def test_it_makes_the_true_word(self):
        for seed in range(30):
            rng = rng_of(seed)
            job = live_job(rng)
            truths = Truths(job)
            name = some_name(rng, job, (0, 1))
            words = {}
            for one, way in derivation(job, name, 10 ** 6):
                words[one] = made(job, one, way, [words[premise] for premise in premises(job, one, way)])
                self.assertEqual(words[one], truths.word(one))
            self.assertEqual(list(words)[-1], name)

    def test_answers_are_new(self):
        kept = derivation(SMALL, ("par", 1, 0, 0, 0), 99)
        derivation(SMALL, ("par", 1, 0, 0, 0), 99).clear()
        self.assertEqual(derivation(SMALL, ("par", 1, 0, 0, 0), 99), kept)
        before = repr(told(JOB))
        derivation(JOB, ("los", 1, 0, 3), 10 ** 6)
        self.assertEqual(repr(told(JOB)), before)

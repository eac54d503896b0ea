import unittest

from asifone.making import made
from asifone.names import is_name
from asifone.texts import job_of
from asifone.ways import is_way, premises, ways_of
from tests.slow import SlowTruths, rounded, word
from tests.support import GREATEST, LEAST, WHOLE, live_job, rng_of, some_name, some_word, told

JOB = job_of(WHOLE)
DIRECT = ("direct",)
# The batch of this step has the samples 1, 3 and 3; sample 3 is 1 2 8 1 | 0 -7.
N, T = 2, 1


class MadeTest(unittest.TestCase):
    def check(self, name, words, result, way=DIRECT):
        self.assertTrue(is_name(JOB, name), name)
        self.assertEqual(len(premises(JOB, name, way)), len(words), name)
        self.assertEqual(made(JOB, name, way, list(words)), result, (name, words))


class CellsTest(MadeTest):
    def test_step_0(self):
        self.check(("par", 0, 0, 1, 2), [], -26)
        self.check(("par", 0, 1, 0, 2), [], 5)
        self.check(("mom", 0, 0, 1, 2), [], 0)

    def test_par(self):
        # The rate of the steps 0 to 2 is 5, that of step 3 is -2; the point is 2.
        self.check(("par", 1, 0, 1, 2), [100, 7], 100 - 9)
        self.check(("par", 3, 0, 1, 2), [100, 7], 100 - 9)
        self.check(("par", 4, 0, 1, 2), [100, 7], 100 + 3)
        self.check(("par", 10 ** 30, 0, 1, 2), [100, 9], 100 + 4)
        self.check(("par", 1, 0, 1, 2), [LEAST, 4], GREATEST - 4)
        # 5 times the greatest word is the greatest word minus 4; 2 more are beyond the words.
        self.check(("par", 1, 0, 1, 2), [0, GREATEST], -((GREATEST - 4 + 2) // 4))
        self.check(("par", 1, 0, 1, 2), [0, 429496730], -rounded(word(5 * 429496730), 2))

    def test_mom(self):
        # The factor is 3.
        self.check(("mom", 1, 0, 1, 2), [0, 7], 7)
        self.check(("mom", 2, 0, 1, 2), [9, 7], 7 + 7)
        self.check(("mom", 2, 0, 1, 2), [-9, 7], -7 + 7)
        self.check(("mom", 2, 0, 1, 2), [-10, 7], -7 + 7)
        self.check(("mom", 2, 0, 1, 2), [4, GREATEST], LEAST + 2)
        self.check(("mom", 2, 0, 1, 2), [GREATEST, 0], rounded(word(3 * GREATEST), 2))
        self.check(("mom", 2, 0, 1, 2), [LEAST, LEAST], LEAST - 536870912 + 4294967296)

    def test_joins(self):
        for name in (("pre", N, T, 20, 0, 2, 6), ("bac", N, T, 4, 1, 0, 0, 3), ("grd", N, 0, 1, 2, 0, 3),
                     ("los", N, 0, 3)):
            for m in range(name[-2], name[-1] + 1):
                self.check(name, [5, -7], -2, ("join", m))
                self.check(name, [GREATEST, 1], LEAST, ("join", m))
                self.check(name, [LEAST, LEAST], 0, ("join", m))

    def test_skips(self):
        for m in range(6, 25):
            for one in (5, LEAST, GREATEST):
                self.check(("inc", N, T, 2, 0, 6), [one], one, ("skip", m))

    def test_los(self):
        self.check(("los", N, 0, 3), [1, 20, 300], 321)
        self.check(("los", N, 1, 3), [GREATEST, 1], LEAST)
        self.check(("los", N, 2, 3), [9], 9)
        self.check(("los", N, 2, 2), [], 0)


class SumsTest(MadeTest):
    def test_pre(self):
        self.check(("pre", N, T, 1, 5, 0, 2), [2, 3, 5, 7], 41)
        self.check(("pre", N, T, 1, 5, 1, 2), [LEAST, 3], LEAST)
        self.check(("pre", N, T, 1, 5, 2, 2), [], 0)
        self.check(("pre", N, T, 4, 5, 0, 2), [2, 3, 5, 7], 41)
        self.check(("pre", N, T, 5, 3, 0, 3), [2, 3, 5, 7, 11, -13], 41 - 143)
        self.check(("pre", N, T, 18, 0, 0, 2), [2, 3, 5, 7], 41)
        self.check(("pre", N, T, 20, 0, 2, 6), [2, 3, 5, 7], 17)
        self.check(("pre", N, T, 20, 0, 2, 4), [GREATEST, 2], LEAST + 1)
        self.check(("pre", N, T, 20, 0, 9, 9), [], 0)

    def test_bac(self):
        self.check(("bac", N, T, 1, 0, 3, 0, 2), [2, 3, 5, 7], 41)
        self.check(("bac", N, T, 4, 1, 3, 1, 3), [2, 3, 5, 7], 41)
        self.check(("bac", N, T, 5, 0, 3, 1, 2), [GREATEST, GREATEST], 1)
        self.check(("bac", N, T, 5, 1, 3, 1, 1), [], 0)


class ValTest(MadeTest):
    def element(self, v, j, words, result, t=T):
        self.check(("val", N, t, v, j), words, result)

    def test_sample(self):
        self.element(0, 2, [], 8)
        self.element(16, 1, [], -7)
        self.element(0, 2, [], -1, t=0)
        self.element(16, 1, [], 1, t=0)

    def test_one_word_that_stays(self):
        for v, j in ((1, 5), (3, 3), (4, 8), (5, 3), (6, 3), (14, 3), (14, 4), (15, 2), (17, 4), (18, 0), (19, 8), (20, 0)):
            for one in (5, LEAST, GREATEST):
                self.element(v, j, [one], one)
        self.element(6, 2, [], 0)

    def test_two_words(self):
        for v, j in ((2, 5), (12, 4), (22, 0)):
            self.element(v, j, [5, -7], -2)
            self.element(v, j, [LEAST, LEAST], 0)
        self.element(11, 4, [5, -7], 12)
        self.element(11, 4, [5, LEAST], word(5 - LEAST))
        self.element(13, 4, [5, -7], -35)
        self.element(13, 4, [LEAST, LEAST], 0)
        self.element(13, 4, [LEAST, -1], LEAST)

    def test_single_operands(self):
        self.element(7, 4, [6], 2)
        self.element(7, 4, [-6], -1)
        self.element(7, 4, [GREATEST], -536870912)
        self.element(8, 4, [6], 6)
        self.element(8, 4, [0], 0)
        self.element(8, 4, [LEAST], 0)
        self.element(10, 4, [6], -12)
        self.element(10, 4, [LEAST], 0)

    def test_drop(self):
        # By the spots 6, 7 and 8 of the step, and by the node 9.
        kept = [[made(JOB, ("val", N, t, 9, j), DIRECT, [5]) for j in range(9)] for t in range(3)]
        truths = SlowTruths(JOB)
        wanted = [[0 if truths.sample(N, t).dropped(9, j) else 5 for j in range(9)] for t in range(3)]
        self.assertEqual(kept, wanted)
        self.assertEqual({word for row in kept for word in row}, {0, 5})
        self.assertNotEqual(kept[0], kept[1])


class IncTest(MadeTest):
    def element(self, v, j, u, words, result):
        """The premise that stands last is 1000."""
        self.check(("inc", N, T, v, j, u), [*words, 1000], 1000 + result)

    def test_behind_all_nodes(self):
        self.check(("inc", N, T, 23, 0, 24), [], 1)
        self.check(("inc", N, T, 22, 0, 24), [], 0)
        self.check(("inc", N, T, 0, 3, 24), [], 0)

    def test_nodes_without_this_operand(self):
        self.element(0, 3, 2, [], 0)
        self.check(("inc", N, T, 0, 3, 2), [LEAST], LEAST)

    def test_words_that_are_added(self):
        for v, j, u in ((0, 3, 1), (2, 5, 4), (3, 5, 4), (2, 5, 5), (3, 5, 5), (19, 8, 20), (1, 4, 2), (10, 4, 11),
                        (18, 0, 22), (4, 3, 6), (15, 2, 17), (16, 1, 17), (14, 1, 15)):
            self.element(v, j, u, [7], 7)
            self.check(("inc", N, T, v, j, u), [LEAST, LEAST], 0)
        for v, j, u in ((4, 5, 6), (14, 0, 15), (14, 4, 15)):
            self.element(v, j, u, [], 0)

    def test_one_operand_twice(self):
        self.element(15, 2, 18, [7, 20], 27)
        self.element(13, 7, 19, [7, 20], 27)
        self.element(5, 3, 14, [7, 20], 27)
        self.element(11, 4, 12, [7], 14)
        self.check(("inc", N, T, 11, 4, 12), [LEAST, 5], 5)

    def test_sub(self):
        self.element(10, 4, 11, [7], 7)
        self.element(4, 4, 11, [7], -7)
        self.check(("inc", N, T, 4, 4, 11), [LEAST, 0], LEAST)

    def test_mul(self):
        # Behind the adjoint stand the values of both operands: each operand gets the other one.
        self.element(12, 4, 13, [7, 10, 100], 700)
        self.element(6, 4, 13, [7, 10, 100], 70)
        self.check(("inc", N, T, 6, 4, 13), [LEAST, 3, 5, LEAST], 0)

    def test_one_operand_twice_of_sub_and_mul(self):
        job = job_of("input 1\ntarget 1\nn0 = input\nn1 = n0 * n0\nn2 = n0 - n0\nloss n1 - n2\nsample 1 | 0")
        self.assertEqual(made(job, ("inc", 0, 0, 0, 0, 1), DIRECT, [7, 10, 100, 1000]), 700 + 70 + 1000)
        self.assertEqual(made(job, ("inc", 0, 0, 0, 0, 2), DIRECT, [7, 1000]), 1000)
        self.assertEqual(made(job, ("inc", 0, 0, 2, 0, 3), DIRECT, [7, 1000]), 1000 - 7)

    def test_single_operands(self):
        self.element(6, 4, 7, [6], 2)
        self.element(6, 4, 7, [-6], -1)
        self.element(7, 4, 8, [6, 1], 6)
        self.element(7, 4, 8, [6, 0], 0)
        self.element(7, 4, 8, [6, LEAST], 0)
        self.element(9, 4, 10, [6], -12)

    def test_drop(self):
        kept = [[made(JOB, ("inc", N, t, 8, j, 9), DIRECT, [5, 1000]) for j in range(9)] for t in range(3)]
        truths = SlowTruths(JOB)
        wanted = [[1000 if truths.sample(N, t).dropped(9, j) else 1005 for j in range(9)] for t in range(3)]
        self.assertEqual(kept, wanted)


class GrdTest(MadeTest):
    def test_lin(self):
        self.check(("grd", N, 0, 1, 2, 1, 2), [2, 3, 5, 7], 41)
        self.check(("grd", N, 0, 1, 2, 0, 2), [2, 3, 5, 7, 1, 10, 1, 100], 151)
        self.check(("grd", N, 0, 1, 2, 1, 2), [LEAST, LEAST, GREATEST, GREATEST], 1)
        self.check(("grd", N, 0, 1, 2, 1, 1), [], 0)

    def test_bias(self):
        self.check(("grd", N, 1, 0, 2, 1, 3), [2, 3, 5, 7], 17)
        self.check(("grd", N, 1, 0, 2, 1, 2), [LEAST, LEAST], 0)

    def test_embed(self):
        self.check(("grd", N, 2, 2, 1, 1, 2), [7, 5], 12)
        self.check(("grd", N, 2, 0, 1, 1, 2), [], 0)
        self.check(("grd", N, 2, 2, 1, 0, 3), [1, 20, 300, 4000, 50000], 54321)

    def test_several_users(self):
        job = job_of(
            "input 2\ntarget 1\nparam p 1 2 same 1\nbatch 2\nn0 = embed(p, 0, 1)\nn1 = input + p\nn2 = n0 + p\n"
            "n3 = n2 * n1\nn4 = take(n3, 0, 1) @ p\nn5 = embed(p, 1, 1)\nloss sum(n4 - n5)\nsample 1 2 | 0")
        # For each sample: embed, bias, bias, both factors of lin, embed.
        words = [1, 20, 300, 7, 1000, 40000, 500000, 10, 20, 100, 1000, 30]
        name = ("grd", 4, 0, 0, 1, 0, 2)
        self.assertEqual(len(premises(job, name, DIRECT)), len(words))
        self.assertEqual(made(job, name, DIRECT, words), 47321 + 500000 + 30 + 100000 + 30)


class TruthsTest(unittest.TestCase):
    def check(self, job, truths, name, way):
        words = [truths.word(one) for one in premises(job, name, way)]
        self.assertEqual(made(job, name, way, words), truths.word(name), (name, way))

    def test_true_premises_make_true_words(self):
        for seed in range(80):
            rng = rng_of(seed)
            job = live_job(rng)
            truths = SlowTruths(job)
            for _ in range(60):
                name = some_name(rng, job, (0, 1, 2))
                for way in ways_of(job, name):
                    self.check(job, truths, name, way)
                for way in [(kind, m) for kind in ("join", "skip") for m in range(25)]:
                    if is_way(job, name, way):
                        self.check(job, truths, name, way)

    def test_all_names_of_a_step(self):
        truths = SlowTruths(JOB)
        nodes = JOB.net.nodes
        for n in (0, 1, 3, 4):
            for v in range(len(nodes)):
                for j in range(JOB.net.lengths[v]):
                    for t in range(3):
                        self.check(JOB, truths, ("val", n, t, v, j), DIRECT)
                        for u in range(v + 1, len(nodes) + 1):
                            for way in ways_of(JOB, ("inc", n, t, v, j, u)):
                                self.check(JOB, truths, ("inc", n, t, v, j, u), way)
            for p, parameter in enumerate(JOB.net.parameters):
                for i in range(parameter.rows):
                    for j in range(parameter.cols):
                        self.check(JOB, truths, ("par", n, p, i, j), DIRECT)
                        self.check(JOB, truths, ("mom", n, p, i, j), DIRECT)
                        self.check(JOB, truths, ("grd", n, p, i, j, 0, 3), DIRECT)

    def test_by_the_words_alone(self):
        # Sums of words do not depend on their grouping, so that wrong words are told by their differences.
        for seed in range(40):
            rng = rng_of(seed)
            job = live_job(rng)
            for _ in range(40):
                name = some_name(rng, job)
                for way in ways_of(job, name):
                    words = [some_word(rng) for _ in premises(job, name, way)]
                    kept = list(words)
                    result = made(job, name, way, words)
                    self.assertTrue(LEAST <= result <= GREATEST)
                    self.assertEqual(words, kept)
                    self.assertEqual(made(job, name, way, list(words)), result)
                    if name[0] in ("pre", "bac", "grd", "los") and way[0] == "direct":
                        self.check_halves(job, name, words, result)

    def check_halves(self, job, name, words, result):
        for m in range(name[-2], name[-1] + 1):
            one, other = name[:-1] + (m,), name[:-2] + (m, name[-1])
            border = len(premises(job, one, DIRECT))
            first = made(job, one, DIRECT, words[:border])
            second = made(job, other, DIRECT, words[border:])
            self.assertEqual(word(first + second), result)

    def test_jobs_stay(self):
        before = repr(told(JOB))
        made(JOB, ("grd", N, 0, 1, 2, 1, 2), DIRECT, [2, 3, 5, 7])
        made(JOB, ("par", 0, 0, 1, 2), DIRECT, [])
        self.assertEqual(repr(told(JOB)), before)

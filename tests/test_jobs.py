import unittest

from asifone.jobs import Job, is_job, rate_at
from asifone.nets import Net
from tests.support import GREATEST, LEAST, rng_of, some_job, told

NET = Net(2, 1, [], [("input",), ("sum", 0)])


def job(**changes):
    fields = {"net": NET, "seed": 1, "batch": 2, "factor": 3, "point": 4, "rates": [(0, 5)], "data": [([1, 2], [3])]}
    fields.update(changes)
    return Job(**fields)


class FieldsTest(unittest.TestCase):
    def test_fields(self):
        one = Job(NET, 1, 2, 3, 4, [(0, 5)], [([1, 2], [3])])
        self.assertIs(one.net, NET)
        self.assertEqual((one.seed, one.batch, one.factor, one.point), (1, 2, 3, 4))
        self.assertEqual((one.rates, one.data), ([(0, 5)], [([1, 2], [3])]))

    def test_lists_are_copied(self):
        rates, data = [(0, 5)], [([1, 2], [3])]
        one = job(rates=rates, data=data)
        rates.append((1, 1))
        data.append(([0, 0], [0]))
        data[0][0][0] = 99
        self.assertEqual((one.rates, one.data), ([(0, 5)], [([1, 2], [3])]))
        one.rates.append((2, 2))
        one.data.append(([0, 0], [0]))
        self.assertEqual((rates, len(data)), ([(0, 5), (1, 1)], 2))


class IsJobTest(unittest.TestCase):
    def check(self, name, rows):
        for value, result in rows:
            self.assertIs(is_job(job(**{name: value})), result, (name, value))

    def test_jobs(self):
        self.assertIs(is_job(job()), True)
        for seed in range(20):
            self.assertIs(is_job(some_job(rng_of(seed))), True)

    def test_network(self):
        self.check("net", [(Net(2, 1, [], [("input",)]), False), (Net(9, 1, [], [("target",)]), False)])

    def test_words(self):
        rows = [(LEAST, True), (GREATEST, True), (LEAST - 1, False), (GREATEST + 1, False)]
        self.check("seed", rows)
        self.check("factor", rows)
        self.check("rates", [([(0, word)], result) for word, result in rows])
        self.check("data", [([([1, word], [3])], result) for word, result in rows])
        self.check("data", [([([1, 2], [3]), ([1, 2], [word])], result) for word, result in rows])

    def test_batch_and_point(self):
        self.check("batch", [(0, False), (1, True), (4, True), (5, False), (-1, False)])
        self.check("point", [(-1, False), (0, True), (31, True), (32, False)])

    def test_rates(self):
        self.check("rates", [([], True), ([(0, 1)] * 4, True), ([(0, 1)] * 5, False)])
        self.check("rates", [([(4294967295, 1)], True), ([(4294967296, 1)], False), ([(-1, 1)], False)])

    def test_data(self):
        self.check("data", [([], False), ([([1, 2], [3])] * 12, True), ([([1, 2], [3])] * 13, False)])
        self.check("data", [
            ([([1], [3])], False), ([([1, 2, 3], [3])], False), ([([1, 2], [])], False), ([([1, 2], [3, 4])], False),
            ([([1, 2], [3]), ([1], [2])], False),
        ])

    def test_argument_stays(self):
        one = job()
        before = repr(told(one))
        is_job(one)
        rate_at(one, 3)
        self.assertEqual(repr(told(one)), before)


class RateTest(unittest.TestCase):
    def test_none(self):
        self.assertEqual(rate_at(job(rates=[]), 5), 0)
        self.assertEqual(rate_at(job(rates=[(6, 9)]), 5), 0)

    def test_from_its_step_on(self):
        one = job(rates=[(2, 10), (5, -20)])
        self.assertEqual([rate_at(one, step) for step in range(8)], [0, 0, 10, 10, 10, -20, -20, -20])
        self.assertEqual(rate_at(one, 10 ** 30), -20)

    def test_the_last_pair_counts(self):
        one = job(rates=[(5, 50), (2, 20), (2, 21), (7, 70)])
        self.assertEqual([rate_at(one, step) for step in (1, 2, 4, 5, 6, 7)], [0, 21, 21, 21, 21, 70])
        self.assertEqual(rate_at(job(rates=[(4294967295, 3)]), 4294967295), 3)
        self.assertEqual(rate_at(job(rates=[(4294967295, 3)]), 4294967294), 0)

import unittest

from asifone.feed import batch_of, order_of, place_of, sample_at, uses
from asifone.jobs import Job
from asifone.nets import Net
from tests.support import GREATEST, LEAST, rng_of, some_job, told

NET = Net(1, 1, [], [("input",), ("sum", 0)])
GREAT = 10 ** 30


def job(many, batch=1, seed=7):
    return Job(NET, seed, batch, 0, 0, [], [([at], [0]) for at in range(many)])


def slow_mix(a, b):
    a, b = a % 2 ** 32, b % 2 ** 32
    t = ((a ^ ((b + 2654435769) % 2 ** 32)) * 2246822507) % 2 ** 32
    return ((t ^ (t // 32768)) * 3266489909) % 2 ** 32


def slow_order(one, epoch):
    order = []
    for i in range(len(one.data)):
        number = one.seed
        for more in (2, epoch, i):
            number = slow_mix(number, more)
        at = number % (i + 1)
        order = order[:at] + [i] + order[at:]
    return order


def slow_uses(one, sample, step):
    """By going along the stream."""
    spots = [at for epoch in range(step * one.batch // len(one.data) + 3)
             for at in slow_order(one, epoch)]
    before = spots[:step * one.batch].count(sample)
    spot = spots.index(sample, step * one.batch)
    return before, spot // one.batch, spot - spot // one.batch * one.batch


class OrderTest(unittest.TestCase):
    def test_small_orders(self):
        self.assertEqual(order_of(job(1), 0), [0])
        self.assertEqual(order_of(job(1), GREAT), [0])
        self.assertEqual([order_of(job(2, seed=0), epoch) for epoch in range(8)],
                         [[0, 1], [1, 0], [0, 1], [0, 1], [1, 0], [1, 0], [0, 1], [0, 1]])

    def test_against_the_document(self):
        for seed in (0, 1, -1, LEAST, GREATEST):
            for many in (1, 2, 3, 5, 12, 13):
                for epoch in (0, 1, 2, 77, 4294967295, 4294967296, GREAT):
                    one = job(many, seed=seed)
                    self.assertEqual(order_of(one, epoch), slow_order(one, epoch))
                    self.assertEqual(sorted(order_of(one, epoch)), list(range(many)))

    def test_epochs_differ(self):
        orders = [order_of(job(12), epoch) for epoch in range(20)]
        self.assertEqual(len({tuple(order) for order in orders}), 20)

    def test_great_epochs_are_reduced(self):
        self.assertEqual(order_of(job(12), 5), order_of(job(12), 5 + 4294967296))
        self.assertNotEqual(order_of(job(12), 5), order_of(job(12), 6))

    def test_places(self):
        one = job(12)
        for epoch in (0, 1, GREAT):
            order = order_of(one, epoch)
            self.assertEqual([order[place_of(one, epoch, sample)] for sample in range(12)], list(range(12)))

    def test_answers_are_new(self):
        one = job(4)
        kept = order_of(one, 3)
        order_of(one, 3).clear()
        batch_of(one, 3).clear()
        self.assertEqual(order_of(one, 3), kept)
        self.assertEqual(len(batch_of(one, 3)), 1)


class StreamTest(unittest.TestCase):
    def test_one_epoch_behind_the_other(self):
        for many in (1, 2, 5, 12):
            one = job(many)
            stream = slow_order(one, 0) + slow_order(one, 1) + slow_order(one, 2)
            self.assertEqual([sample_at(one, spot) for spot in range(3 * many)], stream)

    def test_great_spots(self):
        one = job(5)
        for epoch in (GREAT, GREAT + 1, 10 ** 300):
            spots = [sample_at(one, epoch * 5 + at) for at in range(5)]
            self.assertEqual(spots, slow_order(one, epoch))

    def test_batches(self):
        for many in (1, 2, 3, 12):
            for batch in (1, 2, 3, 4, 5):
                one = job(many, batch)
                stream = [at for epoch in range(70) for at in slow_order(one, epoch)]
                for step in range(12):
                    self.assertEqual(batch_of(one, step), stream[step * batch:(step + 1) * batch])

    def test_a_batch_over_the_border_of_epochs(self):
        one = job(3, batch=2)
        first, second = slow_order(one, 0), slow_order(one, 1)
        self.assertEqual(batch_of(one, 1), [first[2], second[0]])

    def test_a_batch_greater_than_the_samples(self):
        one = job(2, batch=4)
        self.assertEqual(batch_of(one, 1), slow_order(one, 2) + slow_order(one, 3))
        self.assertEqual(batch_of(job(1, batch=4), 9), [0, 0, 0, 0])

    def test_great_steps(self):
        one = job(12, batch=4)
        self.assertEqual(batch_of(one, 3 * GREAT), slow_order(one, GREAT)[:4])
        self.assertEqual(batch_of(one, 3 * GREAT + 2), slow_order(one, GREAT)[8:])


class UsesTest(unittest.TestCase):
    def test_against_the_stream(self):
        for seed in range(3):
            for many in (1, 2, 3, 5, 12):
                for batch in (1, 2, 3, 4):
                    one = job(many, batch, seed)
                    for step in range(10):
                        for sample in range(many):
                            self.assertEqual(uses(one, sample, step=step), slow_uses(one, sample, step))

    def test_at_the_start(self):
        one = job(5, batch=2)
        place = place_of(one, 0, 3)
        self.assertEqual(uses(one, 3, step=0), (0, place // 2, place % 2))

    def test_the_lowest_index_of_a_batch(self):
        self.assertEqual(uses(job(1, batch=4), 0, step=6), (24, 6, 0))

    def test_used_in_this_very_step(self):
        one = job(12, batch=4)
        for step in range(9):
            for index, sample in enumerate(batch_of(one, step)):
                self.assertEqual(uses(one, sample, step=step)[1:], (step, index))

    def test_great_steps(self):
        one = job(12, batch=4)
        for step in (GREAT, GREAT + 1, 3 * GREAT + 2, 10 ** 300):
            for sample in range(12):
                before, first, index = uses(one, sample, step=step)
                self.assertEqual(batch_of(one, first)[index], sample)
                self.assertIn(before, (step * 4 // 12, step * 4 // 12 + 1))
                self.assertTrue(step <= first < step + 6)
                spot = first * 4 + index
                self.assertNotIn(sample, [sample_at(one, at) for at in range(step * 4, spot)])
                # All epochs before that of the next use have used the sample once.
                self.assertEqual(before, spot // 12)

    def test_the_step_is_a_keyword(self):
        with self.assertRaises(TypeError):
            uses(job(3), 1, 0)


class ArgumentsTest(unittest.TestCase):
    def test_jobs_stay(self):
        for seed in range(20):
            one = some_job(rng_of(seed))
            before = repr(told(one))
            order_of(one, seed)
            place_of(one, seed, 0)
            sample_at(one, seed)
            batch_of(one, seed)
            uses(one, 0, step=seed)
            self.assertEqual(repr(told(one)), before)

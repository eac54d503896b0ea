import unittest

from asifone.adds import backward
from asifone.feed import sample_at
from asifone.jobs import Job
from asifone.nets import Net, Parameter, beginnings
from asifone.process import (
    State, adjoints_of, batch_gradients, first_state, gradients_of, loss_at, loss_with, next_state, state_at,
    values_of,
)
from asifone.rings import WordRing
from asifone.scenes import Scene
from asifone.texts import job_of
from asifone.values import forward
from tests.slow import slow_next, slow_scene, word
from tests.support import EXAMPLE, GREATEST, LEAST, live_job, rng_of, some_cells, told

# The loss is w * x, so that the gradient of w is the input x.
LINEAR = Net(1, 1, [Parameter(1, 1, ("same", 100))], [("input",), ("lin", 0, 0)])


def linear(xs, batch=1, factor=0, point=0, rates=()):
    return Job(LINEAR, 0, batch, factor, point, list(rates), [([x], [0]) for x in xs])


class SampleTest(unittest.TestCase):
    def test_random_jobs(self):
        for seed in range(60):
            rng = rng_of(seed)
            job = live_job(rng)
            cells, step, t = some_cells(rng, job.net), rng.choice([0, 1, 5, 10 ** 30]), rng.randrange(job.batch)
            values, adjoints, gradients = slow_scene(job, cells, step, t)
            self.assertEqual(values_of(job, cells, step, t), values)
            self.assertEqual(adjoints_of(job, cells, step, t), adjoints)
            self.assertEqual(gradients_of(job, cells, step, t), gradients)

    def test_dropped_by_the_spot(self):
        # The spot of sample 1 of the batch of step 2 is 7.
        net = Net(1, 1, [], [("input",), ("join", 0, 0), ("join", 1, 1), ("join", 2, 2), ("drop", 2, 3), ("sum", 4)])
        job = Job(net, 5, 3, 0, 0, [], [([1], [0])])
        scenes = []
        for spot in (7, 2, 5):
            scene = Scene(net, WordRing(), 5, [], ([1], [0]), spot)
            forward(scene)
            scenes.append((scene.computed, backward(scene)[0]))
        self.assertEqual((values_of(job, [], 2, 1), adjoints_of(job, [], 2, 1)), scenes[0])
        self.assertNotIn(scenes[0], scenes[1:])


class BatchTest(unittest.TestCase):
    def test_sums(self):
        job = linear([1, 10, 100], batch=4)
        spots = [job.data[sample_at(job, spot)][0][0] for spot in range(4, 8)]
        self.assertEqual(batch_gradients(job, [[[3]]], 1), [[[sum(spots)]]])
        self.assertEqual(loss_with(job, [[[3]]], 1), 3 * sum(spots))

    def test_sums_are_words(self):
        job = linear([GREATEST], batch=3)
        self.assertEqual(batch_gradients(job, [[[1]]], 0), [[[word(3 * GREATEST)]]])
        self.assertEqual(loss_with(job, [[[1]]], 0), word(3 * GREATEST))

    def test_random_jobs(self):
        for seed in range(40):
            rng = rng_of(seed)
            job = live_job(rng)
            cells, step = some_cells(rng, job.net), rng.randrange(9)
            all_gradients = [slow_scene(job, cells, step, t)[2] for t in range(job.batch)]
            wanted = [[[word(sum(one[p][i][j] for one in all_gradients)) for j in range(parameter.cols)]
                       for i in range(parameter.rows)] for p, parameter in enumerate(job.net.parameters)]
            self.assertEqual(batch_gradients(job, cells, step), wanted)


class StepTest(unittest.TestCase):
    def check(self, job, states):
        for step, (cell, moment) in enumerate(states):
            state = state_at(job, step)
            self.assertEqual((state.cells, state.moments), ([[[cell]]], [[[moment]]]), step)

    def test_fields(self):
        state = State([[[1]]], [[[2]]])
        self.assertEqual((state.cells, state.moments), ([[[1]]], [[[2]]]))

    def test_first_state(self):
        job = job_of(EXAMPLE)
        state = first_state(job)
        self.assertEqual(state.cells, beginnings(job.net, job.seed))
        self.assertEqual(state.moments, [[[0], [0]], [[0]]])
        self.assertEqual((state_at(job, 0).cells, state_at(job, 0).moments), (state.cells, state.moments))

    def test_plain_steps(self):
        self.check(linear([5], rates=[(0, 2)]), [(100, 0), (90, 5), (80, 5), (70, 5)])

    def test_the_value_uses_the_new_moment(self):
        self.check(linear([5], factor=3, rates=[(0, 2)]), [(100, 0), (90, 5), (50, 20), (-80, 65)])

    def test_rates(self):
        # A step before the first rate, at it, behind it, and at the next one.
        self.check(linear([1], rates=[(1, 10), (3, -7)]), [(100, 0), (100, 1), (90, 1), (80, 1), (87, 1), (94, 1)])
        self.check(linear([1]), [(100, 0), (100, 1), (100, 1)])

    def test_points(self):
        # 3 * 5 / 8 and 5 * 2 / 8 are rounded to 2 and 1.
        self.check(linear([5], factor=3, point=3, rates=[(0, 2)]), [(100, 0), (99, 5), (97, 7), (95, 8)])
        # Halves are rounded up: -5 / 2 is -2.
        self.check(linear([-5], factor=1, point=1, rates=[(0, 1)]), [(100, 0), (102, -5), (105, -7)])

    def test_point_31(self):
        # The sum 2147483647 + 2 ** 30 is reduced to a word before it is shifted.
        job = linear([GREATEST], factor=1, point=31, rates=[(0, 1)])
        self.check(job, [(100, 0), (101, GREATEST), (102, GREATEST - 1)])
        job = linear([1073741823], factor=1, point=31, rates=[(0, 1)])
        self.check(job, [(100, 0), (100, 1073741823), (100, 1073741823)])

    def test_products_are_words_before_they_are_divided(self):
        job = linear([65536], factor=65536, point=4, rates=[(0, 65536 * 3)])
        self.check(job, [(100, 0), (100, 65536), (100, 65536)])
        job = linear([LEAST], factor=-1, rates=[(0, -1)])
        self.check(job, [(100, 0), (100 + LEAST, LEAST), (100 + LEAST, 0), (100, LEAST)])

    def test_parameters_before_the_step(self):
        job = linear([5], rates=[(0, 2)])
        self.assertEqual([loss_at(job, step) for step in range(4)], [500, 450, 400, 350])

    def test_next_state(self):
        job = linear([5], factor=3, rates=[(1, 2)])
        state = next_state(job, 1, State([[[7]]], [[[11]]]))
        self.assertEqual((state.cells, state.moments), ([[[7 - 2 * 38]]], [[[38]]]))
        state = next_state(job, 0, State([[[7]]], [[[11]]]))
        self.assertEqual((state.cells, state.moments), ([[[7]]], [[[38]]]))

    def test_great_steps(self):
        job = linear([5], rates=[(4294967295, 2)])
        self.assertEqual(next_state(job, 10 ** 30, State([[[7]]], [[[0]]])).cells, [[[-3]]])

    def test_random_jobs(self):
        for seed in range(40):
            job = live_job(rng_of(seed))
            state = first_state(job)
            cells, moments = state.cells, state.moments
            for step in range(3):
                state = state_at(job, step)
                self.assertEqual((state.cells, state.moments), (cells, moments))
                cells, moments, loss = slow_next(job, step, cells, moments)
                self.assertEqual(loss_at(job, step), loss)
                self.assertEqual(loss_with(job, state.cells, step), loss)

    def test_some_jobs_learn(self):
        moved = sum(state_at(job, 2).cells != first_state(job).cells for job in map(live_job, map(rng_of, range(40))))
        self.assertGreater(moved, 10)

    def test_without_parameters(self):
        job = Job(Net(1, 1, [], [("input",), ("sum", 0)]), 3, 2, 1, 1, [(0, 1)], [([5], [0]), ([7], [0])])
        for step in (0, 1, 10 ** 30):
            state = state_at(job, step)
            self.assertEqual((state.cells, state.moments, loss_at(job, step)), ([], [], 12))
        self.assertEqual((gradients_of(job, [], 0, 0), batch_gradients(job, [], 0)), ([], []))


class ArgumentsTest(unittest.TestCase):
    def test_arguments_stay(self):
        for seed in range(20):
            rng = rng_of(seed)
            job = live_job(rng)
            cells = some_cells(rng, job.net)
            state = State(cells, some_cells(rng, job.net))
            before = repr((told(job), cells, state.moments))
            for rule in (values_of, adjoints_of, gradients_of):
                rule(job, cells, 2, 0)
            batch_gradients(job, cells, 2)
            next_state(job, 2, state)
            loss_with(job, cells, 2)
            state_at(job, 1)
            self.assertEqual(repr((told(job), state.cells, state.moments)), before)

    def test_answers_are_new(self):
        job = job_of(EXAMPLE)
        cells = beginnings(job.net, job.seed)
        for rule in (values_of, adjoints_of):
            kept = repr(rule(job, cells, 1, 1))
            for one in rule(job, cells, 1, 1):
                one[0] = 99
            self.assertEqual(repr(rule(job, cells, 1, 1)), kept)
        kept = repr(state_at(job, 1).cells)
        state = state_at(job, 1)
        later = next_state(job, 1, state)
        for one in state.cells + state.moments + first_state(job).cells + later.cells:
            one[0][0] = 99
        self.assertEqual(repr(state_at(job, 1).cells), kept)
        self.assertEqual((first_state(job).cells, first_state(job).moments), (cells, [[[0], [0]], [[0]]]))

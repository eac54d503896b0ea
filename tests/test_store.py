import unittest

from asifone.files import file_of
from asifone.process import first_state
from asifone.store import needed_files, restored, stored
from asifone.texts import job_of
from tests.support import EXAMPLE, rng_of, told

JOB = job_of(EXAMPLE)
BARE = job_of("input 1\ntarget 1\nloss input\nsample 1 | 2")
CELLS = [(0, 0, 0), (0, 1, 0), (1, 0, 0)]
NAMES = [(kind, 4, *cell) for kind in ("par", "mom") for cell in CELLS]
# The files of single facts, and what cannot be read.
SINGLE = [file_of([(name, 10 + at)]) for at, name in enumerate(NAMES)]
TORN = file_of([(name, 7) for name in NAMES])[:-1]


def some_file(*places, add=10):
    return file_of([(NAMES[at], add + at) for at in places])


class StoredTest(unittest.TestCase):
    def test_no_files(self):
        self.assertEqual(stored([]), {})
        self.assertEqual(stored([[], TORN, [1, 2, 3], file_of([])]), {})

    def test_the_first_word_counts(self):
        one, two = NAMES[:2]
        self.assertEqual(stored([file_of([(one, 1), (two, 2), (one, 3)])]), {one: 1, two: 2})
        self.assertEqual(stored([file_of([(two, 5)]), file_of([(one, 1), (two, 2)]), file_of([(one, 9)])]),
                         {two: 5, one: 1})
        self.assertEqual(stored([file_of([(two, 5)])[:-1], file_of([(two, 2)])]), {two: 2})

    def test_any_names(self):
        facts = [(("los", 10 ** 20, 5, 3), -5), (("grd", 1, 2, 3, 4, 5, 6), 6)]
        files = [file_of(facts)]
        kept = [list(data) for data in files]
        self.assertEqual(stored(files), dict(facts))
        self.assertEqual(files, kept)

    def test_answers_are_new(self):
        stored(SINGLE).clear()
        self.assertEqual(stored(SINGLE), {name: 10 + at for at, name in enumerate(NAMES)})


class RestoredTest(unittest.TestCase):
    def check(self, job, files, step, cells, moments):
        state = restored(job, files, step)
        self.assertEqual((state.cells, state.moments), (cells, moments))

    def test_all_words(self):
        self.check(JOB, SINGLE, 4, [[[10], [11]], [[12]]], [[[13], [14]], [[15]]])
        self.check(JOB, [TORN, some_file(5, 3), some_file(0, 1, 2, 3, 4, 5, add=20)], 4,
                   [[[20], [21]], [[22]]], [[[13], [24]], [[15]]])

    def test_a_word_that_is_missing(self):
        for at in range(6):
            self.assertIsNone(restored(JOB, SINGLE[:at] + SINGLE[at + 1:], 4))
        for step in (1, 3, 5, 10 ** 20):
            self.assertIsNone(restored(JOB, SINGLE, step))
        self.assertIsNone(restored(JOB, [TORN], 4))
        self.assertIsNone(restored(JOB, [], 1))

    def test_great_steps(self):
        step = 10 ** 20
        facts = [((name[0], step) + name[2:], at) for at, name in enumerate(NAMES)]
        self.check(JOB, [file_of(facts)], step, [[[0], [1]], [[2]]], [[[3], [4]], [[5]]])

    def test_step_0(self):
        first = first_state(JOB)
        for files in ([], SINGLE, [TORN], [file_of([((kind, 0, *cell), 77) for kind in ("par", "mom") for cell in CELLS])]):
            self.check(JOB, files, 0, first.cells, first.moments)

    def test_without_parameters(self):
        for step in (0, 1, 7, 10 ** 20):
            self.check(BARE, [], step, [], [])
            self.assertEqual(needed_files(BARE, SINGLE, step), ([], []))

    def test_answers_are_new(self):
        before = repr((told(JOB), SINGLE))
        for step in (0, 4):
            state = restored(JOB, SINGLE, step)
            kept = repr((state.cells, state.moments))
            state.cells[0][0][0] = state.moments[0][0][0] = 99
            state = restored(JOB, SINGLE, step)
            self.assertEqual(repr((state.cells, state.moments)), kept)
        self.assertEqual(repr((told(JOB), SINGLE)), before)


def slow_needed(job, files, step):
    def works(places):
        return restored(job, [files[at] for at in places], step) is not None
    taken = list(range(len(files)))
    if not works(taken):
        return None
    critical = [at for at in taken if not works([one for one in taken if one != at])]
    for at in range(len(files)):
        rest = [one for one in taken if one != at]
        if works(rest):
            taken = rest
    return taken, critical


class NeededTest(unittest.TestCase):
    def check(self, files, wanted, step=4):
        self.assertEqual(needed_files(JOB, files, step), wanted)
        self.assertEqual(slow_needed(JOB, files, step), wanted)

    def test_files_that_repeat_one_another(self):
        self.check(SINGLE, ([0, 1, 2, 3, 4, 5], [0, 1, 2, 3, 4, 5]))
        self.check(SINGLE + SINGLE, ([6, 7, 8, 9, 10, 11], []))
        self.check([some_file(*range(6))] * 3, ([2], []))
        # Each of the first two can be left out, but not both.
        self.check([some_file(0, 1, 2, 3), some_file(3, 2), some_file(2, 3, 4), some_file(0, 5), some_file(0, 1)],
                   ([2, 3, 4], [2, 3]))
        self.check([some_file(0, 1, 2, 3), some_file(4, 5, 0), some_file(1, 2), some_file(3, 4)], ([1, 2, 3], [1]))

    def test_files_that_do_not_count(self):
        self.check([TORN, some_file(*range(6)), file_of([]), file_of([(("par", 3, 0, 0, 0), 1)]), []], ([1], [1]))

    def test_a_name_that_is_twice_in_one_file(self):
        double = file_of([(NAMES[0], 1), (NAMES[0], 2)])
        self.check([double, some_file(1, 2, 3, 4, 5)], ([0, 1], [0, 1]))
        self.check([double, double, some_file(1, 2, 3, 4, 5)], ([1, 2], [2]))

    def test_steps_that_cannot_be_restored(self):
        self.check(SINGLE[1:], None)
        self.check(SINGLE, None, 5)
        self.check([], None, 1)

    def test_step_0(self):
        self.check(SINGLE, ([], []), 0)
        self.check([], ([], []), 0)

    def test_random_files(self):
        seen = set()
        for seed in range(200):
            rng = rng_of(seed)
            files = [some_file(*rng.sample(range(6), rng.randrange(6))) for _ in range(rng.randrange(9))]
            files = [rng.choice([data, data, data, data, data[:-1]]) for data in files]
            wanted = slow_needed(JOB, files, 4)
            kept = [list(data) for data in files]
            self.assertEqual(needed_files(JOB, files, 4), wanted)
            self.assertEqual(files, kept)
            seen.add(wanted and (len(wanted[0]) > 2, len(wanted[1])))
        self.assertGreater(len(seen), 4)

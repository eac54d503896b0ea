import unittest
import zlib

from asifone.files import file_of, follows
from tests.support import rng_of, some_word

KINDS = ("par", "mom", "val", "pre", "inc", "bac", "grd", "los")
SIZES = (4, 4, 4, 6, 5, 7, 6, 3)


def leb(n):
    return [n] if n < 128 else [128 + n % 128] + leb(n // 128)


def whole(rows, many):
    """The file of these bytes of runs."""
    data = [79, 78, 82, 49] + leb(many) + rows
    return data + list(zlib.crc32(bytes(data)).to_bytes(4, "little"))


def slow_file(facts):
    starts = [at for at in range(len(facts)) if at == 0 or facts[at][0] != follows(facts[at - 1][0])]
    rows = []
    for start, end in zip(starts, starts[1:] + [len(facts)]):
        name = facts[start][0]
        rows.append(KINDS.index(name[0]))
        for number in (*name[1:], end - start - 1):
            rows += leb(number)
        for _, word in facts[start:end]:
            rows += word.to_bytes(4, "little", signed=True)
    return whole(rows, len(starts))


def some_facts(rng, many):
    """Facts with repeated names, runs and names that follow in another kind."""
    facts = []
    for _ in range(many):
        kind = rng.randrange(8)
        name = (KINDS[kind], *(rng.choice([0, 1, 127, 128, 300, 10 ** 20]) for _ in range(SIZES[kind])))
        if facts and rng.randrange(4):
            name = follows(facts[-1][0])
        if facts and rng.randrange(9) == 0:
            name = facts[rng.randrange(len(facts))][0]
        if rng.randrange(9) == 0 and name[0] in ("par", "mom"):
            name = ("mom",) + name[1:]
        facts.append((name, some_word(rng)))
    return facts


class FollowsTest(unittest.TestCase):
    def test_each_kind(self):
        for name, wanted in (
            (("par", 1, 2, 3, 4), ("par", 1, 2, 3, 5)), (("mom", 1, 2, 3, 4), ("mom", 1, 2, 3, 5)),
            (("val", 1, 2, 3, 4), ("val", 1, 2, 3, 5)), (("pre", 1, 2, 3, 4, 5, 6), ("pre", 1, 2, 3, 5, 5, 6)),
            (("inc", 1, 2, 3, 4, 5), ("inc", 1, 2, 3, 5, 5)), (("bac", 1, 2, 3, 4, 5, 6, 7), ("bac", 1, 2, 3, 4, 6, 6, 7)),
            (("grd", 1, 2, 3, 4, 5, 6), ("grd", 1, 2, 3, 5, 5, 6)), (("los", 1, 2, 3), ("los", 2, 2, 3)),
        ):
            self.assertEqual(follows(name), wanted)
        self.assertEqual(follows(("par", 0, 0, 0, 10 ** 30)), ("par", 0, 0, 0, 10 ** 30 + 1))


class FileTest(unittest.TestCase):
    def check(self, facts, digits):
        kept = list(facts)
        self.assertEqual(file_of(facts), [int(one, 16) for one in digits.split()])
        self.assertEqual(facts, kept)

    def test_the_table(self):
        self.check([], "4f 4e 52 31 00 e7 ea 2f ce")
        self.check([(("mom", 1, 0, 0, 0), 7)], "4f 4e 52 31 01 01 01 00 00 00 00 07 00 00 00 23 79 38 81")
        self.check([(("par", 2, 0, 0, 0), 1), (("par", 2, 0, 0, 1), 2)],
                   "4f 4e 52 31 01 00 02 00 00 00 01 01 00 00 00 02 00 00 00 a9 db 1b 1e")

    def test_each_kind(self):
        for kind, size in zip(KINDS, SIZES):
            name = (kind, *range(1, size + 1))
            rows = [KINDS.index(kind), *range(1, size + 1)]
            self.assertEqual(file_of([(name, -2)]), whole(rows + [0, 254, 255, 255, 255], 1))
            self.assertEqual(file_of([(name, -2), (follows(name), 3)]),
                             whole(rows + [1, 254, 255, 255, 255, 3, 0, 0, 0], 1))

    def test_great_numbers(self):
        self.assertEqual(file_of([(("los", 300, 128, 0), 1)]), whole([7, 172, 2, 128, 1, 0, 0, 1, 0, 0, 0], 1))

    def test_long_runs_and_many_runs(self):
        facts = [(("par", 0, 0, 0, j), j) for j in range(200)]
        rows = [byte for j in range(200) for byte in (j, 0, 0, 0)]
        self.assertEqual(file_of(facts), whole([0, 0, 0, 0, 0, 199, 1] + rows, 1))
        facts = [(("par", 0, 0, 0, 2 * j), j) for j in range(200)]
        rows = [byte for j in range(200) for byte in (0, 0, 0, 0, *leb(2 * j), 0, j, 0, 0, 0)]
        self.assertEqual(file_of(facts), whole(rows, 200))

    def test_what_starts_a_run(self):
        one, two = ("par", 1, 0, 0, 0), ("par", 1, 0, 0, 1)
        for other in (one, ("mom", 1, 0, 0, 1), ("par", 1, 0, 1, 0), ("par", 2, 0, 0, 0), ("par", 1, 0, 0, 2)):
            self.assertEqual(file_of([(one, 5), (other, 6)])[4], 2, other)
        self.assertEqual(file_of([(one, 5), (two, 6)])[4], 1)
        self.assertEqual(file_of([(two, 5), (one, 6)])[4], 2)

    def test_random_facts(self):
        for seed in range(300):
            rng = rng_of(seed)
            facts = some_facts(rng, rng.randrange(30))
            kept = list(facts)
            self.assertEqual(file_of(facts), slow_file(facts), facts)
            self.assertEqual(facts, kept)

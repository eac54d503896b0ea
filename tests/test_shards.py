import unittest
import zlib

from asifone.errors import AsifoneError, FileError
from asifone.files import file_of
from asifone.shards import facts_of
from tests.support import GREATEST, LEAST, rng_of
from tests.test_files import leb, slow_file, some_facts, whole

HEAD = [79, 78, 82, 49]
EARLY = "shard file ends too early"
# One run of the name ("par", 2, 0, 0, 0) with two facts.
RUN = [0, 2, 0, 0, 0, 1, 1, 0, 0, 0, 2, 0, 0, 0]


class ReadingTest(unittest.TestCase):
    def test_files_of_facts(self):
        for facts in (
            [], [(("mom", 1, 0, 0, 0), 7)], [(("par", 2, 0, 0, 0), 1), (("par", 2, 0, 0, 1), 2)],
            [(("los", 10 ** 40, 0, 3), LEAST), (("los", 10 ** 40 + 1, 0, 3), GREATEST), (("los", 0, 0, 3), -1)],
            [(("mom", 1, 0, 0, 0), 7), (("mom", 1, 0, 0, 0), 8)], [(("mom", 1, 0, 0, 1), 7), (("mom", 1, 0, 0, 0), 8)],
            [(("mom", 1, 0, 0, 0), 7), (("par", 1, 0, 0, 1), 8)],
        ):
            self.assertEqual(facts_of(file_of(facts)), facts)

    def test_random_facts(self):
        for seed in range(300):
            rng = rng_of(seed)
            facts = some_facts(rng, rng.randrange(30))
            data = slow_file(facts)
            kept = list(data)
            self.assertEqual(facts_of(data), facts)
            self.assertEqual(data, kept)

    def test_answers_are_new(self):
        data = file_of([(("mom", 1, 0, 0, 0), 7)])
        facts_of(data).clear()
        self.assertEqual(facts_of(data), [(("mom", 1, 0, 0, 0), 7)])


class ReasonsTest(unittest.TestCase):
    def check(self, data, reason):
        kept = list(data)
        with self.assertRaises(FileError) as caught:
            facts_of(data)
        self.assertEqual(caught.exception.reason, reason, data)
        self.assertIsInstance(caught.exception, AsifoneError)
        self.assertEqual(data, kept)

    def test_not_a_shard_file(self):
        for data in ([], [79], [79, 78, 82], [79, 78, 82, 50], [78, 78, 82, 49, 0, 1, 2, 3, 4], [0] * 40,
                     [79, 78, 82, 50] + [200] * 9, whole([], 0)[1:]):
            self.check(data, "not a shard file")

    def test_ends_too_early(self):
        self.check(HEAD, EARLY)
        self.check(HEAD + [128], EARLY)
        self.check(HEAD + [1], EARLY)
        self.check(HEAD + [1, 7, 128], EARLY)
        self.check(HEAD + [0, 1, 2, 3], EARLY)
        # Numbers may tell of more than could ever be there.
        self.check(HEAD + leb(10 ** 30) + RUN, EARLY)
        self.check(HEAD + [1, 7, 0, 0, 1] + leb(10 ** 30) + [1, 0, 0, 0], EARLY)
        self.check(HEAD + [1, 7] + [255] * 50, EARLY)

    def test_each_beginning_of_a_file(self):
        for facts in ([], [(("mom", 300, 0, 0, 0), 7)], [(("par", 2, 0, 0, 0), 1), (("par", 2, 0, 0, 1), 2)],
                      some_facts(rng_of(5), 9)):
            data = file_of(facts)
            for size in range(len(data)):
                self.check(data[:size], "not a shard file" if size < 4 else EARLY)

    def test_unknown_kind(self):
        self.check(HEAD + [1, 9], "unknown kind 9 at byte 5")
        self.check(HEAD + [1, 8] + RUN, "unknown kind 8 at byte 5")
        self.check(HEAD + [1, 255], "unknown kind 255 at byte 5")
        self.check(HEAD + [128, 1, 128], "unknown kind 128 at byte 6")
        self.check(whole(RUN + [8] + RUN, 2), "unknown kind 8 at byte 19")

    def test_superfluous_bytes(self):
        reason = "number with a superfluous byte at byte "
        self.check(HEAD + [128, 0], reason + "5")
        self.check(HEAD + [129, 0, 9], reason + "5")
        self.check(HEAD + [129, 128, 0], reason + "6")
        self.check(HEAD + [1, 7, 0, 128, 0], reason + "8")
        self.check(HEAD + [1, 7, 0, 0, 1, 129, 0], reason + "10")
        self.check(whole(RUN + [7, 1, 1, 255, 0, 0, 1, 2, 3, 4], 2), reason + "23")
        # A zero alone is a number, and a number may have zeros in the middle.
        self.assertEqual(facts_of(whole([7, 0, 128, 128, 1, 0, 0, 1, 0, 0, 0], 1)), [(("los", 0, 16384, 0), 1)])

    def test_runs_that_continue(self):
        # The last fact of the first run is that of ("par", 2, 0, 0, 1).
        reason = "run continues the previous one at byte "
        self.check(whole(RUN + [0, 2, 0, 0, 2, 0, 1, 0, 0, 0], 2), reason + "19")
        self.check(whole(RUN + [0, 2, 0, 0, 2, 1, 1, 0, 0, 0, 1, 0, 0, 0] + RUN, 3), reason + "19")
        self.check(whole([0, 0, 0, 0, 3, 0, 1, 0, 0, 0] + RUN + [0, 2, 0, 0, 2, 0, 1, 0, 0, 0], 3), reason + "29")
        # It must have been read completely.
        self.check(HEAD + [2] + RUN + [0, 2, 0, 0, 2, 0, 1, 0, 0], EARLY)
        self.check(HEAD + [2] + RUN + [0, 2, 0, 0, 2, 128, 0], "number with a superfluous byte at byte 25")
        self.check(HEAD + [2] + RUN + [0, 2, 0, 0, 2, 0, 1, 0, 0, 0], reason + "19")
        for other in ([0, 2, 0, 0, 1], [0, 2, 0, 0, 3], [1, 2, 0, 0, 2], [0, 3, 0, 0, 2], [0, 2, 0, 0, 0]):
            self.assertEqual(len(facts_of(whole(RUN + other + [0, 1, 0, 0, 0], 2))), 3)

    def test_checksum_mismatch(self):
        for facts in ([], [(("mom", 300, 0, 0, 0), 7)]):
            data = file_of(facts)
            for at in range(len(data) - 4, len(data)):
                for change in (1, 128, 255):
                    self.check(data[:at] + [data[at] ^ change] + data[at + 1:], "checksum mismatch")
        data = file_of([(("mom", 300, 0, 0, 0), 7)])
        self.check(data[:-8] + [8] + data[-7:], "checksum mismatch")

    def test_bytes_after_the_checksum(self):
        data = file_of([(("mom", 300, 0, 0, 0), 7)])
        self.check(data + [0], "bytes after the checksum: 1")
        self.check(data + data, f"bytes after the checksum: {len(data)}")
        wrong = data[:-1] + [data[-1] ^ 1]
        self.check(wrong + [0, 0], "checksum mismatch")

    def test_the_first_reason_counts(self):
        self.check(HEAD + [2, 0, 128, 0, 9, 9], "number with a superfluous byte at byte 7")
        self.check(HEAD + [2, 9, 128, 0], "unknown kind 9 at byte 5")
        self.check(HEAD + [128, 0, 9], "number with a superfluous byte at byte 5")
        data = whole(RUN + [0, 2, 0, 0, 2, 0, 1, 0, 0, 0], 2)
        self.check(data[:-1] + [data[-1] ^ 1, 5], "run continues the previous one at byte 19")

    def test_each_change_of_a_byte_is_noticed(self):
        data = file_of([(("par", 2, 0, 0, 0), 1), (("par", 2, 0, 0, 1), 2), (("los", 300, 0, 2), -5)])
        for at in range(len(data)):
            for change in (1, 2, 16, 128):
                with self.assertRaises(FileError):
                    facts_of(data[:at] + [data[at] ^ change] + data[at + 1:])

    def test_random_bytes_behind_the_head(self):
        """What can be read is the file of its facts, byte by byte."""
        read = 0
        for seed in range(3000):
            rng = rng_of(seed)
            many = rng.randrange(3)
            rows = []
            for _ in range(many):
                rows += [rng.choice([0, 7, 7])] + [rng.randrange(3) for _ in range(rng.choice([4, 5, 6]))]
                rows += [rng.randrange(256) for _ in range(4)]
            data = HEAD + [many] + rows
            data += list(zlib.crc32(bytes(data)).to_bytes(4, "little"))
            try:
                facts = facts_of(data)
            except FileError:
                continue
            read += 1
            self.assertEqual(file_of(facts), data)
        self.assertGreater(read, 300)

"""Reading files of facts."""

from asifone.errors import FileError
from asifone.files import HEAD, follows
from asifone.varints import checksum
from asifone.words import wrap

# The kinds of names by their numbers, each with how many numbers a name of the kind has.
KINDS = (("par", 4), ("mom", 4), ("val", 4), ("pre", 6), ("inc", 5), ("bac", 7), ("grd", 6), ("los", 3))


class Reader:
    """The bytes of a file, and the index of the next one; the first ones are those of every file."""

    def __init__(self, data):
        self.data = data
        self.at = len(HEAD)

    def next_byte(self):
        """The next byte."""
        if self.at >= len(self.data):
            raise FileError("shard file ends too early")
        self.at += 1
        return self.data[self.at - 1]

    def number(self):
        """The number of the next bytes."""
        first = self.at
        byte = self.next_byte()
        result = byte & 127
        while byte > 127:
            shift = 7 * (self.at - first)
            byte = self.next_byte()
            result += (byte & 127) << shift
        if byte == 0 and self.at > first + 1:
            raise FileError(f"number with a superfluous byte at byte {self.at - 1}")
        return result

    def four_bytes(self):
        """The number of the next four bytes, the lowest first."""
        return sum([self.next_byte() << shift for shift in (0, 8, 16, 24)])


def facts_of(data):
    """The list of the facts of a file."""
    if tuple(data[:4]) != HEAD:
        raise FileError("not a shard file")
    reader = Reader(data)
    many = reader.number()
    facts = []
    for _ in range(many):
        start = reader.at
        run = _run_of(reader)
        if facts and run[0][0] == follows(facts[-1][0]):
            raise FileError(f"run continues the previous one at byte {start}")
        facts.extend(run)
    _check_end(reader)
    return facts


def _run_of(reader):
    """The facts of the next run."""
    kind = reader.next_byte()
    if kind >= len(KINDS):
        raise FileError(f"unknown kind {kind} at byte {reader.at - 1}")
    word, size = KINDS[kind]
    name = (word,) + tuple([reader.number() for _ in range(size)])
    later = reader.number()
    facts = []
    for _ in range(later + 1):
        facts.append((name, wrap(reader.four_bytes())))
        name = follows(name)
    return facts


def _check_end(reader):
    before = reader.data[:reader.at]
    if reader.four_bytes() != checksum(before):
        raise FileError("checksum mismatch")
    left = len(reader.data) - reader.at
    if left > 0:
        raise FileError(f"bytes after the checksum: {left}")

"""Files of facts."""

from asifone.naming import KIND_NUMBERS, renumbered
from asifone.varints import checksum, number_bytes, word_bytes

# The first bytes of every file.
HEAD = (79, 78, 82, 49)

# Where the number stands in the tuple that is greater by 1 in the name that follows.
GROWING = {"par": 4, "mom": 4, "val": 4, "pre": 4, "inc": 4, "bac": 5, "grd": 4, "los": 1}


def follows(name):
    """The name that follows a name."""
    at = GROWING[name[0]]
    return renumbered(name, at, name[at] + 1)


def file_of(facts):
    """The file of a list of facts, a list of bytes."""
    runs = _runs(facts)
    data = list(HEAD) + number_bytes(len(runs))
    for run in runs:
        data.extend(_run_bytes(run))
    return data + word_bytes(checksum(data))


def _runs(facts):
    runs = []
    awaited = None
    for name, word in facts:
        if name != awaited:
            runs.append([])
        runs[-1].append((name, word))
        awaited = follows(name)
    return runs


def _run_bytes(run):
    first = run[0][0]
    result = [KIND_NUMBERS[first[0]]]
    for number in first[1:]:
        result.extend(number_bytes(number))
    result.extend(number_bytes(len(run) - 1))
    for _, word in run:
        result.extend(word_bytes(word))
    return result

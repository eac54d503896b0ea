"""What a list of files has, and which of the files a step needs."""

from asifone.errors import FileError
from asifone.naming import state_names
from asifone.places import cells_of
from asifone.process import State, first_state
from asifone.shards import facts_of


def stored(files):
    """The dict from the names that the files have to their words."""
    result = {}
    for data in files:
        words = words_in(data)
        for name, word in words.items():
            result.setdefault(name, word)
    return result


def restored(job, files, step):
    """The State of a step, or None if it cannot be restored."""
    return state_in(job, [words_in(data) for data in files], step)


def needed_files(job, files, step):
    """The tuple (needed, critical) of a step, two lists of indexes of files, or None if it cannot be restored."""
    return needed_in(job, [words_in(data) for data in files], step)


def words_in(data):
    """The dict from the names in a file to their first words, empty if the file cannot be read."""
    result = {}
    try:
        facts = facts_of(data)
    except FileError:
        facts = []
    for name, word in facts:
        result.setdefault(name, word)
    return result


# In the following functions each file is told as a dict from its names to their words.


def word_in(tables, name):
    """The first word of a name in files, or None."""
    for words in tables:
        if name in words:
            return words[name]
    return None


def state_in(job, tables, step):
    """The State of a step, or None if it cannot be restored."""
    if step == 0:
        return first_state(job)
    if not has_state(job, tables, step):
        return None
    return State(_cells_in(job.net, tables, "par", step), _cells_in(job.net, tables, "mom", step))


def has_state(job, tables, step):
    """True if the files have all parameters and moments of a step."""
    return None not in [word_in(tables, name) for name in state_names(cells_of(job.net), step)]


def needed_in(job, tables, step):
    """The tuple (needed, critical) of a step, or None if it cannot be restored."""
    wanted = state_names(cells_of(job.net), step) if step > 0 else []
    names_by_file = [[name for name in wanted if name in words] for words in tables]
    counted = {name: 0 for name in wanted}
    for names in names_by_file:
        for name in names:
            counted[name] += 1
    if 0 in list(counted.values()):
        return None
    critical = [at for at, names in enumerate(names_by_file) if _has_the_last(names, counted)]
    needed = []
    for at, names in enumerate(names_by_file):
        if _has_the_last(names, counted):
            needed.append(at)
        else:
            for name in names:
                counted[name] -= 1
    return needed, critical


def _has_the_last(names, counted):
    """True if one of the names is counted in a single file."""
    return 1 in [counted[name] for name in names]


def _cells_in(net, tables, kind, step):
    return [
        [[word_in(tables, (kind, step, p, i, j)) for j in range(parameter.cols)] for i in range(parameter.rows)]
        for p, parameter in enumerate(net.parameters)
    ]

"""What the statements of a job text say to a draft."""

from asifone.expressions import meaning_of
from asifone.limits import MOST_PARAMETERS, MOST_RATES, MOST_SAMPLES, MOST_SHIFT, MOST_SIDE
from asifone.nets import Parameter
from asifone.words import wrap

BOUNDS = {
    "input": (1, 8),
    "target": (1, 8),
    "batch": (1, 4),
    "point": (0, 31),
}


def tell(draft, statement):
    """Adds what a statement says to the draft."""
    if statement.word != "":
        rule = RULES[statement.word]
        rule(draft, statement)


def end(draft, column):
    """Checks at the end of the text that nothing is missing."""
    _check_declared(draft, column)
    if not draft.ended:
        draft.fail(column, "loss is missing")
    if len(draft.data) == 0:
        draft.fail(column, "sample is missing")


def _check_declared(draft, column):
    if draft.inputs == 0:
        draft.fail(column, "input is not declared")
    if draft.targets == 0:
        draft.fail(column, "target is not declared")


def _check_number(draft, column, number, bounds):
    lo, hi = bounds
    if not lo <= number <= hi:
        draft.fail(column, f"number must be from {lo} to {hi}")


def _check_room(draft, column, things, most, what):
    if len(things) >= most:
        draft.fail(column, f"more than {most} {what}")


def _check_name(draft, token):
    if token.text in draft.names:
        draft.fail(token.column, "name is already used")


def _check_open(draft, column):
    if draft.ended:
        draft.fail(column, "node after the loss")


def _node_for(draft, tree):
    sort, v = meaning_of(draft, tree)
    if sort != "node":
        draft.fail(tree.column, "a node is expected")
    return v


def _setting(draft, statement):
    word, number = statement.word, statement.parts[0]
    if word in draft.settings:
        draft.fail(statement.column, "already given")
    if word in BOUNDS:
        _check_number(draft, statement.column, number, BOUNDS[word])
    draft.settings[word] = wrap(number)
    if word == "input":
        draft.inputs = number
    if word == "target":
        draft.targets = number


def _rate(draft, statement):
    step, number = statement.parts
    _check_room(draft, statement.column, draft.rates, MOST_RATES, "rates")
    draft.rates.append((step, wrap(number)))


def _param(draft, statement):
    name, rows, cols, fill = statement.parts
    kind, number = fill
    _check_name(draft, name)
    _check_number(draft, statement.column, rows, (1, MOST_SIDE))
    _check_number(draft, statement.column, cols, (1, MOST_SIDE))
    if kind == "mixed":
        _check_number(draft, statement.column, number, (0, MOST_SHIFT))
    _check_room(draft, statement.column, draft.parameters, MOST_PARAMETERS, "parameters")
    draft.names[name.text] = ("parameter", len(draft.parameters))
    draft.parameters.append(Parameter(rows, cols, (kind, wrap(number))))


def _naming(draft, statement):
    name, _, tree = statement.parts
    _check_name(draft, name)
    _check_open(draft, name.column)
    draft.names[name.text] = ("node", _node_for(draft, tree))


def _loss(draft, statement):
    tree = statement.parts[0]
    _check_open(draft, statement.column)
    v = _node_for(draft, tree)
    if v < len(draft.nodes) - 1:
        draft.fail(tree.column, "loss is not the last node")
    if draft.lengths[v] != 1:
        draft.fail(tree.column, f"loss has length {draft.lengths[v]}, expected 1")
    draft.ended = True


def _sample(draft, statement):
    given, _, wanted = statement.parts
    column = statement.column
    _check_declared(draft, column)
    if len(given) != draft.inputs:
        draft.fail(column, f"sample has {len(given)} inputs, expected {draft.inputs}")
    if len(wanted) != draft.targets:
        draft.fail(column, f"sample has {len(wanted)} targets, expected {draft.targets}")
    _check_room(draft, column, draft.data, MOST_SAMPLES, "samples")
    draft.data.append(([wrap(number) for number in given], [wrap(number) for number in wanted]))


RULES = {
    "input": _setting,
    "target": _setting,
    "seed": _setting,
    "batch": _setting,
    "beta": _setting,
    "point": _setting,
    "rate": _rate,
    "param": _param,
    "=": _naming,
    "loss": _loss,
    "sample": _sample,
}

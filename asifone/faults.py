"""The faults of nodes in job texts."""

from asifone.limits import LEAST_DIVISOR, MOST_LENGTH, MOST_NODES, MOST_SHIFT
from asifone.shapes import is_inside, is_multiple, length_of


def fault_of(draft, node):
    """The message of the first fault of a node that is to be added, or None; operands and parameter exist."""
    if node[0] in FAULTS:
        rule = FAULTS[node[0]]
        message = rule(draft, node)
        if message is not None:
            return message
    if length_of(draft, draft.lengths, node) > MOST_LENGTH:
        return "node is longer than 12"
    if len(draft.nodes) >= MOST_NODES:
        return "more than 24 nodes"
    return None


def _multiple_fault(length, c):
    return None if is_multiple(length, c) else f"length {length} is not a multiple of {c}"


def _of_inputs(draft, node):
    return None if draft.inputs > 0 else "input is not declared"


def _of_targets(draft, node):
    return None if draft.targets > 0 else "target is not declared"


def _of_lin(draft, node):
    _, p, a = node
    return _multiple_fault(draft.lengths[a], draft.parameters[p].rows)


def _of_bias(draft, node):
    _, p, a = node
    parameter = draft.parameters[p]
    if parameter.rows != 1:
        return f"parameter has {parameter.rows} rows, expected 1"
    return _multiple_fault(draft.lengths[a], parameter.cols)


def _of_embed(draft, node):
    _, _, lo, n = node
    return None if is_inside(lo, n, draft.inputs) else "range is outside the input"


def _of_mat(draft, node):
    _, k, a, b = node
    message = _multiple_fault(draft.lengths[a], k)
    return _multiple_fault(draft.lengths[b], k) if message is None else message


def _of_lower(draft, node):
    _, c, a = node
    return _multiple_fault(draft.lengths[a], c)


def _of_pair(draft, node):
    _, a, b = node
    first, second = draft.lengths[a], draft.lengths[b]
    return None if first == second else f"lengths {first} and {second} differ"


def _of_shift(draft, node):
    return None if node[1] <= MOST_SHIFT else "shift must be at most 31"


def _of_drop(draft, node):
    return None if node[1] >= LEAST_DIVISOR else "drop divisor must be at least 2"


def _of_take(draft, node):
    _, lo, n, a = node
    return None if is_inside(lo, n, draft.lengths[a]) else "range is outside the operand"


FAULTS = {
    "input": _of_inputs,
    "target": _of_targets,
    "lin": _of_lin,
    "bias": _of_bias,
    "embed": _of_embed,
    "mat": _of_mat,
    "matT": _of_mat,
    "lower": _of_lower,
    "add": _of_pair,
    "sub": _of_pair,
    "mul": _of_pair,
    "shift": _of_shift,
    "drop": _of_drop,
    "take": _of_take,
}

"""What the expressions of a job text stand for."""

from asifone.words import wrap

# The sorts of the operands, where not all of them are nodes.
SORTS = {
    "+": (("node",), ("node", "parameter")),
    "*": (("node", "number"), ("node", "number")),
    "@": (("node",), ("parameter",)),
    "embed": (("parameter",),),
}


def meaning_of(draft, tree):
    """The pair of the sort (number, parameter or node) and the number for which the expression stands."""
    if tree.kind == "number":
        return ("number", tree.numbers[0])
    if tree.kind == "name":
        if tree.text not in draft.names:
            draft.fail(tree.column, "unknown name")
        return draft.names[tree.text]
    given = [meaning_of(draft, part) for part in tree.parts]
    _check_sorts(draft, tree, [sort for sort, _ in given])
    return ("node", draft.add_node(_node_of(tree, given), tree.column))


def _check_sorts(draft, tree, sorts):
    for at, part in enumerate(tree.parts):
        wanted = SORTS[tree.text][at] if tree.text in SORTS else ("node",)
        if sorts[at] not in wanted or sorts[:at + 1] == ["number", "number"]:
            what = "a node" if "node" in wanted else "a parameter"
            draft.fail(part.column, f"{what} is expected")


def _node_of(tree, given):
    numbers = [number for _, number in given]
    if tree.kind == "sum":
        return _sum_node(tree.text, given, numbers)
    if tree.kind == "product":
        return _product_node(tree.text, given, numbers)
    if tree.text == "embed":
        return ("embed", *numbers, *tree.numbers)
    return (tree.text, *tree.numbers, *numbers)


def _sum_node(sign, given, numbers):
    a, b = numbers
    if given[1][0] == "parameter":
        return ("bias", b, a)
    return ("add" if sign == "+" else "sub", a, b)


def _product_node(sign, given, numbers):
    a, b = numbers
    if sign == "@":
        return ("lin", b, a)
    if given[0][0] == "number":
        return ("scale", wrap(a), b)
    if given[1][0] == "number":
        return ("scale", wrap(b), a)
    return ("mul", a, b)

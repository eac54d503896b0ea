"""The written form of the lines of a job text."""


def written_line(statement, comment):
    """The written form of a line with this statement and this comment."""
    said = _written_statement(statement)
    if said != "" and comment != "":
        return f"{said} {comment}"
    return said + comment


def _written_statement(statement):
    if statement.word == "=":
        name, _, tree = statement.parts
        return f"{name.text} = {_written(tree)}"
    if statement.word == "loss":
        return f"loss {_written(statement.parts[0])}"
    # In all other statements a minus belongs to the number behind it.
    return " ".join([token.text for token in statement.tokens[:-1]]).replace("- ", "-")


def _written(tree):
    if tree.kind == "sum":
        return _pair(tree, (), ("sum",))
    if tree.kind == "product":
        return _pair(tree, ("sum",), ("sum", "product"))
    if tree.kind == "call":
        inside = ", ".join([_written(part) for part in tree.parts] + [str(number) for number in tree.numbers])
        return f"{tree.text}({inside})"
    return tree.text


def _pair(tree, first_kinds, second_kinds):
    first, second = tree.parts
    return f"{_operand(first, first_kinds)} {tree.text} {_operand(second, second_kinds)}"


def _operand(tree, kinds):
    return f"({_written(tree)})" if tree.kind in kinds else _written(tree)

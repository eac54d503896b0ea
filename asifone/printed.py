"""The printed form of a job."""

from asifone.nets import operands

SIGNS = {"add": "+", "sub": "-", "mul": "*"}


def printed(job):
    """The printed form of a job, a text in the written form."""
    net = job.net
    lines = [f"seed {job.seed}", f"batch {job.batch}", f"beta {job.factor}", f"point {job.point}"]
    lines.extend([f"rate {step} {word}" for step, word in job.rates])
    lines.extend([f"input {net.inputs}", f"target {net.targets}"])
    lines.extend([_parameter_line(p, parameter) for p, parameter in enumerate(net.parameters)])
    lines.extend([f"n{v} = {_node_text(node)}" for v, node in enumerate(net.nodes[:-1])])
    lines.append(f"loss {_node_text(net.nodes[-1])}")
    lines.extend([_sample_line(given, wanted) for given, wanted in job.data])
    return "\n".join(lines)


def _parameter_line(p, parameter):
    kind, number = parameter.fill
    return f"param p{p} {parameter.rows} {parameter.cols} {kind} {number}"


def _sample_line(given, wanted):
    words = ["sample", *[str(word) for word in given], "|", *[str(word) for word in wanted]]
    return " ".join(words)


def _node_text(node):
    kind = node[0]
    names = [f"n{v}" for v in operands(node)]
    if kind in SIGNS:
        return f"{names[0]} {SIGNS[kind]} {names[1]}"
    if kind in ("input", "target"):
        return kind
    if kind == "lin":
        return f"{names[0]} @ p{node[1]}"
    if kind == "bias":
        return f"{names[0]} + p{node[1]}"
    if kind == "scale":
        return f"{node[1]} * {names[0]}"
    if kind == "embed":
        return f"embed(p{node[1]}, {node[2]}, {node[3]})"
    # The other nodes have their numbers before their operands.
    numbers = [str(number) for number in node[1:len(node) - len(names)]]
    inside = ", ".join(names + numbers)
    return f"{kind}({inside})"

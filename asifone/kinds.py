"""The kinds of nodes: where the tuple of a node has its operands and its parameter."""

OPERAND_PLACES = {
    "input": (),
    "target": (),
    "lin": (2,),
    "bias": (2,),
    "embed": (),
    "mat": (2, 3),
    "matT": (2, 3),
    "lower": (2,),
    "add": (1, 2),
    "sub": (1, 2),
    "mul": (1, 2),
    "scale": (2,),
    "shift": (2,),
    "relu": (1,),
    "drop": (2,),
    "sum": (1,),
    "join": (1, 2),
    "take": (3,),
}

# Their parameter stands directly behind the kind.
WITH_PARAMETER = ("lin", "bias", "embed")

"""How names are put together, and where their numbers stand."""

KIND_NUMBERS = {"par": 0, "mom": 1, "val": 2, "pre": 3, "inc": 4, "bac": 5, "grd": 6, "los": 7}

# The names of sums: their last two numbers are the range of the terms.
WITH_RANGE = ("pre", "bac", "grd", "los")


def val(n, t, v, j):
    """The name of the element j of the node v."""
    return ("val", n, t, v, j)


def par(n, p, i, j):
    """The name of a cell."""
    return ("par", n, p, i, j)


def adj(n, t, v, j):
    """The name whose word is the adjoint of the element j of the node v."""
    return ("inc", n, t, v, j, v + 1)


def renumbered(name, at, number):
    """The same name with another number at this place of the tuple."""
    return name[:at] + (number,) + name[at + 1:]


def with_range(name, lo, hi):
    """The same name of a sum with another range."""
    return name[:-2] + (lo, hi)


def state_names(cells, step):
    """The names of the parameters and moments of these cells before a step, cell by cell."""
    return [(kind, step, *cell) for cell in cells for kind in ("par", "mom")]

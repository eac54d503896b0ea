"""The way and the ranks of each name in a layout."""

from asifone.derivations import plain_way
from asifone.layouts import part_begin, part_of, rank_at
from asifone.nets import operands
from asifone.places import block_of, copy_of, homes, loss_rank, ranks_at
from asifone.places import ranks_of_element, stage_of, updaters, ways_of_element
from asifone.terms import count_of


def way_in(job, layout, name):
    """The way of a name in a layout."""
    if name[0] in ("pre", "bac"):
        return _way_of_sum(job, layout, name)
    if name[0] in ("grd", "los"):
        return _way_of_block(job, layout, name)
    return plain_way(job, name)


def ranks_in(job, layout, name):
    """The list of the ranks of a name in a layout."""
    rule = RANKS[name[0]]
    return rule(job, layout, name)


def _way_of_sum(job, layout, name):
    lo, hi = name[-2:]
    if _is_cut(job, layout, name):
        many = count_of(job, name)
        start = part_begin(many, layout.ways, part_of(many, layout.ways, hi - 1))
        if start > lo:
            return ("join", start)
    return ("direct",)


def _way_of_block(job, layout, name):
    lo, hi = name[-2:]
    start, _ = block_of(job, layout, copy_of(job, layout, hi - 1))
    if start > lo:
        return ("join", start)
    return ("join", hi - 1) if lo < hi - 1 else ("direct",)


def _is_cut(job, layout, name):
    """True if the sum of which a pre or bac name is a part is cut."""
    node = job.net.nodes[name[3]]
    if name[0] == "bac":
        return node[0] == "lin" and layout.cut[name[3]]
    return node[0] in ("lin", "sum") and layout.cut[operands(node)[0]]


def _is_in_one_part(job, layout, name):
    """True if the sum is cut, and the terms of the name are made by the way of one part alone."""
    return _is_cut(job, layout, name) and _way_of_sum(job, layout, name) == ("direct",)


def _rank_of_part(job, layout, name):
    _, _, t, v = name[:4]
    way = part_of(count_of(job, name), layout.ways, name[-2])
    return rank_at(layout, copy_of(job, layout, t), stage_of(layout, v), way)


def _is_in_one_block(job, layout, name):
    lo, hi = name[-2:]
    return hi <= block_of(job, layout, copy_of(job, layout, lo))[1]


# Each of the following functions tells the ranks of a name of one kind.


def _of_cell(job, layout, name):
    _, _, p, i, j = name
    return updaters(job, layout, p, i, j)


def _of_element(job, layout, name):
    _, _, t, v, j = name[:5]
    return ranks_of_element(job, layout, t, v, j)


def _of_pre(job, layout, name):
    if _is_in_one_part(job, layout, name):
        return [_rank_of_part(job, layout, name)]
    return _of_element(job, layout, name)


def _of_bac(job, layout, name):
    if _is_in_one_part(job, layout, name):
        return [_rank_of_part(job, layout, name)]
    _, _, t, u, s, i = name[:6]
    ways = ways_of_element(job, layout, operands(job.net.nodes[u])[s], i)
    return ranks_at(layout, copy_of(job, layout, t), stage_of(layout, u), ways)


def _of_grd(job, layout, name):
    _, _, p, i, j, lo, _ = name
    if _is_in_one_block(job, layout, name):
        return homes(job, layout, copy_of(job, layout, lo), p, i, j)
    return updaters(job, layout, p, i, j)


def _of_los(job, layout, name):
    copy = copy_of(job, layout, name[2]) if _is_in_one_block(job, layout, name) else 0
    return [loss_rank(job, layout, copy)]


RANKS = {
    "par": _of_cell,
    "mom": _of_cell,
    "val": _of_element,
    "pre": _of_pre,
    "inc": _of_element,
    "bac": _of_bac,
    "grd": _of_grd,
    "los": _of_los,
}

"""Machines with simpler expressions."""

from stagecut.check import check
from stagecut.shapes import bottom_up, fold_up, with_parts
from stagecut.shorter import shorter
from stagecut.words import fitted_width

# Where the expressions stand in a row.
EXPRESSIONS = {"let": (2,), "guess": (2,), "set": (2, 3), "put": (2, 3, 4)}


def simplify(tree):
    """A machine that does the same, with simpler expressions."""
    widths = widths_by_name(check(tree))
    name, items, stages = tree
    simpler = []
    for rows in stages:
        simpler.append(tuple([simpler_row(row, widths) for row in rows]))
    return (name, items, tuple(simpler))


def count_parts(tree):
    """Of how many trees the expressions of a machine consist."""
    many = 0
    for rows in tree[2]:
        for row in rows:
            for at in EXPRESSIONS[row[0]]:
                if row[at] is not None:
                    many += len(bottom_up(row[at]))
    return many


def widths_by_name(plan):
    """The width of what each name stands for, or of its words."""
    widths = {name: width for name, width in plan[1]}
    for row in plan[2]:
        widths[row[0]] = row[2]
    for row in plan[3]:
        widths[row[0]] = row[1]
    return widths


def simpler_row(row, widths):
    """A row with simpler expressions."""
    told = list(row)
    for at in EXPRESSIONS[row[0]]:
        if row[at] is not None:
            told[at] = simpler_expr(row[at], widths)
    if row[0] in ("set", "put") and told[-1] == ("lit", 1, 1):
        told[-1] = None
    return tuple(told)


def simpler_expr(tree, widths):
    """A simpler expression that has the same value."""
    return fold_up(tree, lambda node, sides: simpler_node(node, sides, widths))[0]


def simpler_node(node, sides, widths):
    """A node made simpler and its width, from those of its parts."""
    kind = node[0]
    if kind == "lit":
        return node, node[2]
    if kind == "name":
        return node, widths[node[1]]
    inner = [side[0] for side in sides]
    if kind == "read":
        return with_parts(node, inner), widths[node[1]]
    own = [side[1] for side in sides]
    known = [part[1] if part[0] == "lit" else None for part in inner]
    found = shorter(node, known, own, len(inner) > 1 and inner[-1] == inner[-2])
    if found is None:
        return with_parts(node, inner), fitted_width(node, own)
    if found[0] == "same":
        return sides[found[1]]
    return found, found[2]

"""Machines cut anew, into stages that are as light as can be."""

from itertools import combinations

from stagecut.check import MOST_STAGES, check
from stagecut.errors import Unfit
from stagecut.shapes import fold_up
from stagecut.simplify import EXPRESSIONS

READING_WEIGHT = 4
SIGN_WEIGHTS = {"*": 8, "+": 3, "-": 3, "<": 3, "<<": 3, ">>": 3, "==": 2, "&": 1, "|": 1, "^": 1}


def recut(tree, many):
    """The machine with its rows in so many stages, the heaviest as light as can be; None if there is none."""
    if not 1 <= many <= MOST_STAGES:
        return None
    name, items, stages = tree
    rows = [row for stage in stages for row in stage]
    weights = [row_weight(row) for row in rows]
    found = []
    for places in splits(len(rows), many - 1):
        found.append((max([sum(part) for part in cut_at(weights, places)]), places))
    for _, places in sorted(found):
        cut = (name, items, tuple([tuple(part) for part in cut_at(rows, places)]))
        if is_checked(cut):
            return cut
    return None


def heaviest(tree):
    """The weight of the heaviest stage of a machine."""
    return max([sum([row_weight(row) for row in rows]) for rows in tree[2]], default=0)


def row_weight(row):
    """The weight of a row."""
    return max([expr_weight(row[at]) for at in EXPRESSIONS[row[0]] if row[at] is not None])


def expr_weight(tree):
    """The weight of an expression."""
    return fold_up(tree, node_weight)


def node_weight(node, sides):
    """The weight of a node, from those of its parts."""
    kind = node[0]
    if kind == "read":
        return READING_WEIGHT + sides[0]
    if kind == "op":
        return SIGN_WEIGHTS[node[1]] + max(sides)
    if kind in ("not", "pick"):
        return 1 + max(sides)
    return max(sides, default=0)


def splits(rows, many):
    """All rows of so many places, in ascending order, at which so many rows can be split."""
    found = []
    for chosen in combinations(range(rows + many), many):
        found.append(tuple([place - at for at, place in enumerate(chosen)]))
    return found


def cut_at(rows, places):
    """The parts of a list that is split at places."""
    found = []
    begin = 0
    for end in (*places, len(rows)):
        found.append(rows[begin:end])
        begin = end
    return found


def is_checked(tree):
    """True if a machine is checked without an error."""
    try:
        check(tree)
    except Unfit:
        return False
    return True

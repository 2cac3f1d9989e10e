"""What expressions, the cores of plans and the rows of circuits have in common: how their parts stand in them."""

# The places of the parts, by the first word.
PARTS = {
    "lit": (), "name": (), "reg": (), "let": (),
    "read": (2,), "look": (2,),
    "not": (1,), "op": (2, 3), "pick": (1, 2, 3),
    "wide": (1,), "part": (1,), "join": (1, 2),
}


def parts(tree):
    """The list of the parts of a tree, from the left."""
    return [tree[at] for at in PARTS[tree[0]]]


def with_parts(tree, changed):
    """A tree with other parts in the place of its own."""
    told = list(tree)
    for at, part in zip(PARTS[tree[0]], changed):
        told[at] = part
    return tuple(told)


def top_down(tree):
    """The list of all trees that a tree consists of, from the left, each ahead of its parts."""
    found = []
    todo = [tree]
    while todo:
        node = todo.pop()
        found.append(node)
        todo.extend(parts(node)[::-1])
    return found


def bottom_up(tree):
    """The list of all trees that a tree consists of, from the left, each behind its parts."""
    found = []
    todo = [tree]
    while todo:
        node = todo.pop()
        found.append(node)
        todo.extend(parts(node))
    return found[::-1]


def cut_off(rows, many):
    """Takes the last rows away from a list and gives them."""
    at = len(rows) - many
    last = rows[at:]
    del rows[at:]
    return last


def fold_up(tree, visit):
    """What visit(tree, results of its parts) gives for a whole tree, parts first."""
    done = []
    for node in bottom_up(tree):
        sides = cut_off(done, len(PARTS[node[0]]))
        done.append(visit(node, sides))
    return done[0]

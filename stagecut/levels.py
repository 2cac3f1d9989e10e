"""How deep the nodes of nets are."""


def levels(net):
    """The list of the levels of all nodes."""
    found = [0] * (1 + len(net[0]))
    for one, other in net[1]:
        found.append(1 + max(found[one >> 1], found[other >> 1]))
    return found


def depth(net):
    """The greatest level of the nodes of the next and told literals, 0 if there are none."""
    found = levels(net)
    return max([found[literal >> 1] for literal in net[2] + net[3]], default=0)


def longest(net):
    """Nodes from one of level 0 to a next or told one of the greatest level, each named by the one behind it."""
    if not net[2] + net[3]:
        return ()
    found = levels(net)
    deepest = depth(net)
    nodes = [literal >> 1 for literal in net[2] + net[3]]
    path = [[node for node in nodes if found[node] == deepest][0]]
    for _ in range(deepest):
        one, other = net[1][path[-1] - 1 - len(net[0])]
        path.append(max([one >> 1, other >> 1], key=lambda node: found[node]))
    return tuple(path[::-1])


def level_counts(net):
    """How many ands have the level 1, 2 and so on, up to the greatest one."""
    found = levels(net)
    counts = [0] * max(found)
    for level in found:
        if level > 0:
            counts[level - 1] += 1
    return tuple(counts)

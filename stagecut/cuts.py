"""Cuts of nodes of nets in the making: leaves from which an and can be worked out by one table."""

# How many cuts are kept for each and.
MOST_CUTS = 8
# What a table costs: so much that shares of it can be told as integers.
TABLE_COST = 1048576


class Cuts:
    """For each and cuts of at most so many leaves, as triples of the level of a table, its cost and its leaves."""

    def __init__(self, nodes, size):
        self._nodes = nodes
        self._size = size
        self._cuts = {}
        self._levels = {}
        # What the tables cost on which a node hangs; what is named several times is shared.
        self._costs = {}
        named = times_named(nodes)
        for node, sides in enumerate(nodes):
            self._levels[node] = 0
            self._costs[node] = 0
            if sides is not None:
                self._cuts[node] = self._best_cuts(sides)
                level, cost, _ = self._cuts[node][0]
                self._levels[node] = level
                self._costs[node] = cost // max(1, named[node])

    def level(self, node):
        """The least level that a node can have."""
        return self._levels[node]

    def best_leaves(self, node, most):
        """The leaves of the cut that costs the least, of those whose level is not greater than a number."""
        return min([(cost, leaves) for level, cost, leaves in self._cuts[node] if level <= most])[1]

    def _best_cuts(self, sides):
        """The best cuts of an and of two literals, those of the least level first."""
        found = {}
        for one in self._leaf_sets(sides[0] >> 1):
            for other in self._leaf_sets(sides[1] >> 1):
                leaves = tuple(sorted({leaf: True for leaf in one + other}))
                if len(leaves) <= self._size and leaves not in found:
                    level = 1 + max([self._levels[leaf] for leaf in leaves])
                    found[leaves] = (level, TABLE_COST + sum([self._costs[leaf] for leaf in leaves]), leaves)
        return sorted(list(found.values()))[:MOST_CUTS]

    def _leaf_sets(self, node):
        """The leaves from which a node can be worked out: itself, or those of one of its cuts."""
        return [(node,), *[leaves for _, _, leaves in self._cuts.get(node, [])]]


def times_named(nodes):
    """How often each node is named by ands."""
    found = [0] * len(nodes)
    for sides in nodes:
        if sides is not None:
            for side in sides:
                found[side >> 1] += 1
    return found


def cut_table(nodes, node, leaves):
    """The table that works out a node from leaves, without those that do not matter."""
    many = 1 << len(leaves)
    full = (1 << many) - 1
    worths = {leaf: sum([((at >> place) & 1) << at for at in range(many)]) for place, leaf in enumerate(leaves)}
    todo = [node]
    while todo:
        sides = nodes[todo[-1]]
        ahead = [side >> 1 for side in sides if side >> 1 not in worths]
        if ahead:
            todo.extend(ahead)
            continue
        one, other = [worths[side >> 1] ^ (full if side & 1 else 0) for side in sides]
        worths[todo.pop()] = one & other
    return needed_table(leaves, [(worths[node] >> at) & 1 for at in range(many)])


def needed_table(leaves, bits):
    """A table without the leaves that do not matter."""
    kept = list(leaves)
    for leaf in leaves:
        step = 1 << kept.index(leaf)
        low = [bit for at, bit in enumerate(bits) if not at & step]
        high = [bit for at, bit in enumerate(bits) if at & step]
        if low == high:
            kept.remove(leaf)
            bits = low
    return tuple(kept), tuple(bits)
